import PyProof.Rows.All
import Wide.All
import OpenK.AllK
import Wide.FinOn
import HandS.ForMost
import HandS.ForExc
import HandS.CallSlots
import HandS.Lambda
import KE.KDflt
import HandS.IsInst
import HandS.Property
import HandS.ExcInit
import HandS.ExcField
import HandS.Walk
import HandS.Defaults
import HandS.TupAny
import HandS.Conv
import HandS.Deep
import PyProof.P3In
import HandS.OwnEq
import PyProof.InstNe
import PyProof.EqLayable
import HandS.Style
import HandS.DictComp
import KE.KDictSum
import PyProof.TupleOfSeq
import KE.SortData
import KE.DataMinMax
import KE.KDictPairs
import HandS.TupLen
import HandS.TupMul
import HandS.ListItems
import HandS.ExcIs
import HandS.Ends
import HandS.EndBits
import KE.KNestM
import HandS.HeadHook4
import HandS.EndTab
import HandS.Records
import HandS.Star
import HandS.TupSets
import HandS.SetBool
import HandS.SortKw
import HandS.ListEq
import HandS.DictEq
import PyProof.NeKinds
import HandS.SetFor
import HandS.FStr
import HandS.Small
import KE.HD2
import PySem.Challenge.RW_fewtuners_k09_whole_small_disks
set_option Elab.async false
set_option linter.all false
set_option maxRecDepth 100000
set_option maxHeartbeats 4000000
namespace DD
open PySem L2
/-- a lambda's text -/
structure LamK where
  params : Arguments
  body : Expr
  scope : Scope
/-- data: what never changes -/
inductive Dt where
  | non | bl (b : Bool) | int (i : Int) | str (x : Str) | raw (v : V)
  | tup (xs : List Dt) | lst (xs : List Dt) | ktu (xs : List Dt) | fls (xs : List Dt) | dic (kvs : List (Key × Dt)) | dtt (kvs : List (List Key × Dt)) | ins (C : Addr) (fs : List (Str × Dt))
  | exc (a : Addr) (d : Option Addr) (C : Addr) (fs : List (Str × Dt))
  | lam (cl : List (Str × Addr)) (k : LamK)
/-- what a slot holds: nothing known, data, an object of one's own -/
inductive Sv where
  | un | dat (d : Dt) | own (p : Addr)
/-- an object of one's own -/
inductive Ob where
  | lst (xs : List Sv) | dic (kvs : List (Key × Sv)) | dtt (kvs : List (List Key × Sv)) | ins (C : Addr) (fs : List (Str × Sv))
  /-- a def's table of code objects, all of the name q; and what is known of that def's slots -/
  | tbl (q : Str) (Δ : List Sv) (σ : List (Option V))
abbrev Store := List (Addr × Ob)
abbrev keys (st : Store) : List Addr := st.map (·.1)
/-- a known tuple; the empty one may be the module's -/
def TuI (K : PySem.W.Frag) (I : Hp) (a : Addr) (vs : List V) : Prop := I a = some (.tup vs) ∨ (vs = [] ∧ SqT K I a [])
theorem TuI.st {K : PySem.W.Frag} {I : Hp} {a : Addr} {vs : List V} (h : TuI K I a vs) : SqT K I a vs := by
  rcases h with h | ⟨rfl, h⟩
  · exact .inl (.inl h)
  · exact h
/-- a lambda's default: none, or 0 -/
def DefIs (I : Hp) (k : LamK) (dV : Value) : Prop := (k.params.defaults = [] ∧ dV = .none) ∨ (k.params.defaults ≠ [] ∧ ∃ T, dV = .ref T ∧ I T = some (.tup [.int 0]))
abbrev lamO (q : Str) (cl : List (Str × Addr)) (k : LamK) (dV doc pm : Value) (c' : Addr) (ctv : Value) : Obj :=
  PySem.W.kdv_obj "<lambda>" q k.params (.expr k.body) k.scope (cloFrom cl k.scope.names []) dV doc pm c' ctv
mutual
inductive IsD (K : PySem.W.Frag) (I : Hp) : Dt → V → Prop
  | non : IsD K I .non .non
  | bl (b : Bool) : IsD K I (.bl b) (.bl b)
  | int (i : Int) : IsD K I (.int i) (.int i)
  | str (x : Str) : IsD K I (.str x) (.str x)
  | raw (v : V) : IsD K I (.raw v) v
  | tup {ds : List Dt} {vs : List V} {a : Addr} : TuI K I a vs → IsDs K I ds vs → IsD K I (.tup ds) (.ref a)
  | lst {ds : List Dt} {vs : List V} {a : Addr} : I a = some (.lst vs) → IsDs K I ds vs → IsD K I (.lst ds) (.ref a)
  | ktu {ds : List Dt} {vs : List V} {a : Addr} : SqT K I a vs → IsDs K I ds vs → IsD K I (.ktu ds) (.ref a)
  | fls {ds : List Dt} {vs : List V} {a : Addr} : SqL K I a vs → IsDs K I ds vs → IsD K I (.fls ds) (.ref a)
  | dic {ds : List (Key × Dt)} {vs : List (Key × V)} {a : Addr} : Rd I a (.dK vs) → IsDk K I ds vs → IsD K I (.dic ds) (.ref a)
  | dtt {ds : List (List Key × Dt)} {vs : List (List Key × V)} {a : Addr} : Rd I a (.dT vs) → IsDt K I ds vs → IsD K I (.dtt ds) (.ref a)
  | ins {C : Addr} {ds : List (Str × Dt)} {vs : List (Str × V)} {a dx : Addr} : I a = some (.ins C dx vs) → IsDf K I ds vs → IsD K I (.ins C ds) (.ref a)
  | exc {a dd C : Addr} {ds : List (Str × Dt)} {vs : List (Str × V)} : I dd = some (.xd vs) → IsDf K I ds vs → IsD K I (.exc a (some dd) C ds) (.ref a)
  | exc0 {a C : Addr} : IsD K I (.exc a none C []) (.ref a)
  | lam {cl : List (Str × Addr)} {k : LamK} {f c' : Addr} {q : Str} {dV doc pm ctv : Value} : I f = some (.frz (lamO q cl k dV doc pm c' ctv) (.ext fun _ => True)) → I c' = some (LamX.CodeO c' q) → DefIs I k dV → IsD K I (.lam cl k) (.ref f)
inductive IsDs (K : PySem.W.Frag) (I : Hp) : List Dt → List V → Prop
  | nil : IsDs K I [] []
  | cons {d : Dt} {v : V} {ds : List Dt} {vs : List V} : IsD K I d v → IsDs K I ds vs → IsDs K I (d :: ds) (v :: vs)
inductive IsDk (K : PySem.W.Frag) (I : Hp) : List (Key × Dt) → List (Key × V) → Prop
  | nil : IsDk K I [] []
  | cons {k : Key} {d : Dt} {v : V} {ds : List (Key × Dt)} {vs : List (Key × V)} : IsD K I d v → IsDk K I ds vs → IsDk K I ((k, d) :: ds) ((k, v) :: vs)
inductive IsDt (K : PySem.W.Frag) (I : Hp) : List (List Key × Dt) → List (List Key × V) → Prop
  | nil : IsDt K I [] []
  | cons {k : List Key} {d : Dt} {v : V} {ds : List (List Key × Dt)} {vs : List (List Key × V)} : IsD K I d v → IsDt K I ds vs → IsDt K I ((k, d) :: ds) ((k, v) :: vs)
inductive IsDf (K : PySem.W.Frag) (I : Hp) : List (Str × Dt) → List (Str × V) → Prop
  | nil : IsDf K I [] []
  | cons {k : Str} {d : Dt} {v : V} {ds : List (Str × Dt)} {vs : List (Str × V)} : IsD K I d v → IsDf K I ds vs → IsDf K I ((k, d) :: ds) ((k, v) :: vs)
end
/-- a heap that extends another one -/
def Ex (I I' : Hp) : Prop := ∀ a o, I a = some o → I' a = some o
theorem Ex.refl (I : Hp) : Ex I I := fun _ _ h => h
theorem Ex.trans {I J L : Hp} (a : Ex I J) (b : Ex J L) : Ex I L := fun x o h => b x o (a x o h)
theorem Ex.new {H : Hp} {p : Addr} {o : HO} (h : H p = none) : Ex H (upd H p o) := fun a u e => by
  rw [upd_ne (ne_of_none e h)]
  exact e
theorem Ex.rd {I I' : Hp} (e : Ex I I') {a : Addr} {u : HO} (h : Rd I a u) : Rd I' a u := by
  rcases h with h | ⟨o, h⟩
  · exact Or.inl (e a _ h)
  · exact Or.inr ⟨o, e a _ h⟩
theorem Ex.sl {K : PySem.W.Frag} {I I' : Hp} (e : Ex I I') {a : Addr} {xs : List V} (h : SqL K I a xs) : SqL K I' a xs := h.imp e.rd id
theorem Ex.st {K : PySem.W.Frag} {I I' : Hp} (e : Ex I I') {a : Addr} {xs : List V} (h : SqT K I a xs) : SqT K I' a xs := h.imp e.rd id
theorem TuI.mono {K : PySem.W.Frag} {I I' : Hp} (e : Ex I I') {a : Addr} {vs : List V} (h : TuI K I a vs) : TuI K I' a vs := h.imp (e _ _) fun ⟨x, y⟩ => ⟨x, e.st y⟩
theorem DefIs.mono {I I' : Hp} (e : Ex I I') {k : LamK} {dV : Value} (h : DefIs I k dV) : DefIs I' k dV := h.imp id fun ⟨a, T, b, c⟩ => ⟨a, T, b, e _ _ c⟩
mutual
theorem IsD.mono {K : PySem.W.Frag} {I I' : Hp} (e : Ex I I') : ∀ {d : Dt} {v : V}, IsD K I d v → IsD K I' d v
  | _, _, .non => .non
  | _, _, .bl b => .bl b
  | _, _, .int i => .int i
  | _, _, .str x => .str x
  | _, _, .raw v => .raw v
  | _, _, .tup h r => .tup (h.mono e) (IsDs.mono e r)
  | _, _, .lst h r => .lst (e _ _ h) (IsDs.mono e r)
  | _, _, .ktu h r => .ktu (e.st h) (IsDs.mono e r)
  | _, _, .fls h r => .fls (e.sl h) (IsDs.mono e r)
  | _, _, .dic h r => .dic (e.rd h) (IsDk.mono e r)
  | _, _, .dtt h r => .dtt (e.rd h) (IsDt.mono e r)
  | _, _, .ins h r => .ins (e _ _ h) (IsDf.mono e r)
  | _, _, .exc h r => .exc (e _ _ h) (IsDf.mono e r)
  | _, _, .exc0 => .exc0
  | _, _, .lam a b c => .lam (e _ _ a) (e _ _ b) (c.mono e)
theorem IsDs.mono {K : PySem.W.Frag} {I I' : Hp} (e : Ex I I') : ∀ {d : List Dt} {v : List V}, IsDs K I d v → IsDs K I' d v
  | _, _, .nil => .nil
  | _, _, .cons h r => .cons (IsD.mono e h) (IsDs.mono e r)
theorem IsDk.mono {K : PySem.W.Frag} {I I' : Hp} (e : Ex I I') : ∀ {d : List (Key × Dt)} {v : List (Key × V)}, IsDk K I d v → IsDk K I' d v
  | _, _, .nil => .nil
  | _, _, .cons h r => .cons (IsD.mono e h) (IsDk.mono e r)
theorem IsDt.mono {K : PySem.W.Frag} {I I' : Hp} (e : Ex I I') : ∀ {d : List (List Key × Dt)} {v : List (List Key × V)}, IsDt K I d v → IsDt K I' d v
  | _, _, .nil => .nil
  | _, _, .cons h r => .cons (IsD.mono e h) (IsDt.mono e r)
theorem IsDf.mono {K : PySem.W.Frag} {I I' : Hp} (e : Ex I I') : ∀ {d : List (Str × Dt)} {v : List (Str × V)}, IsDf K I d v → IsDf K I' d v
  | _, _, .nil => .nil
  | _, _, .cons h r => .cons (IsD.mono e h) (IsDf.mono e r)
end
inductive IsS (K : PySem.W.Frag) (I : Hp) : Sv → V → Prop
  | dat {d : Dt} {v : V} : IsD K I d v → IsS K I (.dat d) v
  | own (p : Addr) : IsS K I (.own p) (.ref p)
theorem IsS.mono {K : PySem.W.Frag} {I I' : Hp} (e : Ex I I') {s : Sv} {v : V} : IsS K I s v → IsS K I' s v
  | .dat h => .dat (h.mono e)
  | .own p => .own p
abbrev IsSs (K : PySem.W.Frag) (I : Hp) : List Sv → List V → Prop := Paired (IsS K I)
def RK (K : PySem.W.Frag) (I : Hp) {κ : Type} (a : κ × Sv) (b : κ × V) : Prop := a.1 = b.1 ∧ IsS K I a.2 b.2
theorem RK.mono {K : PySem.W.Frag} {I I' : Hp} (e : Ex I I') {κ : Type} {a : κ × Sv} {b : κ × V} (h : RK K I a b) : RK K I' a b := ⟨h.1, h.2.mono e⟩
theorem paired_mono {α β : Type} {F G : α → β → Prop} (h : ∀ a b, F a b → G a b) : ∀ {xs : List α} {ys : List β}, Paired F xs ys → Paired G xs ys
  | _, _, .nil => .nil
  | _, _, .cons r t => .cons (h _ _ r) (paired_mono h t)
/-- what an own object is in the heap -/
inductive ObIs (K : PySem.W.Frag) (I : Hp) : Ob → HO → Prop
  | lst {xs : List Sv} {vs : List V} : IsSs K I xs vs → ObIs K I (.lst xs) (.lst vs)
  | dic {xs : List (Key × Sv)} {vs : List (Key × V)} : Paired (RK K I) xs vs → ObIs K I (.dic xs) (.dK vs)
  | dtt {xs : List (List Key × Sv)} {vs : List (List Key × V)} : Paired (RK K I) xs vs → ObIs K I (.dtt xs) (.dT vs)
  | ins {C dx : Addr} {xs : List (Str × Sv)} {vs : List (Str × V)} : Paired (RK K I) xs vs → ObIs K I (.ins C xs) (.ins C dx vs)
  | tbl {q : Str} {Δ : List Sv} {σ : List (Option V)} {ps : Array Value} : TriplesOk ps.toList → (∀ (pos : Pos) (cv : Value), codeAmong pos ps.toList = some cv → ∃ c, cv = .ref c ∧ I c = some (LamX.CodeO c q)) →
      σ.length = Δ.length → (∀ (i : Nat) (s : Sv), Δ[i]? = some s → s = .un ∨ ∃ v, σ[i]? = some (some v) ∧ IsS K I s v) → ObIs K I (.tbl q Δ σ) (.tbl ps)
theorem ObIs.mono {K : PySem.W.Frag} {I I' : Hp} (e : Ex I I') {ob : Ob} {o : HO} : ObIs K I ob o → ObIs K I' ob o
  | .lst h => .lst (paired_mono (fun _ _ => IsS.mono e) h)
  | .dic h => .dic (paired_mono (fun _ _ => RK.mono e) h)
  | .dtt h => .dtt (paired_mono (fun _ _ => RK.mono e) h)
  | .ins h => .ins (paired_mono (fun _ _ => RK.mono e) h)
  | .tbl h1 h2 h3 h4 => .tbl h1 (fun p cv hc => let ⟨c, a, b⟩ := h2 p cv hc; ⟨c, a, e _ _ b⟩) h3 fun i s hs => (h4 i s hs).imp id fun ⟨v, a, b⟩ => ⟨v, a, b.mono e⟩
/-- what is known stands in the heap (a dict perhaps locked) -/
def Sub (I H : Hp) : Prop := ∀ a o, I a = some o → H a = some o ∨ (((∃ k, o = .dK k) ∨ ∃ k, o = .dT k) ∧ ∃ ob, H a = some (.frz ob o))
theorem Sub.rd {I H : Hp} (s : Sub I H) {a : Addr} {u : HO} (h : Rd I a u) : Rd H a u := by
  rcases h with h | ⟨o, h⟩
  · rcases s a _ h with h | ⟨_, ob, h⟩
    · exact .inl h
    · exact .inr ⟨ob, h⟩
  · rcases s a _ h with h | ⟨h | h, _⟩
    · exact .inr ⟨o, h⟩
    · obtain ⟨k, h⟩ := h; cases h
    · obtain ⟨k, h⟩ := h; cases h
theorem Sub.sl {K : PySem.W.Frag} {I H : Hp} (s : Sub I H) {a : Addr} {xs : List V} (h : SqL K I a xs) : SqL K H a xs := h.imp s.rd id
theorem Sub.st {K : PySem.W.Frag} {I H : Hp} (s : Sub I H) {a : Addr} {xs : List V} (h : SqT K I a xs) : SqT K H a xs := h.imp s.rd id
theorem Sub.at {I H : Hp} (s : Sub I H) {a : Addr} {o : HO} (h : I a = some o) (n : ∀ k, o ≠ .dK k) (m : ∀ k, o ≠ .dT k) : H a = some o := by
  rcases s a _ h with h | ⟨⟨k, h⟩ | ⟨k, h⟩, _⟩
  · exact h
  · exact absurd h (n k)
  · exact absurd h (m k)
theorem Sub.none {I H : Hp} (s : Sub I H) {a : Addr} (h : H a = none) : I a = none := by
  cases e : I a with
  | none => rfl
  | some o =>
    rcases s a _ e with q | ⟨_, ob, q⟩ <;> rw [h] at q <;> cases q
/-- a world: known things, own things -/
structure Wd (K : PySem.W.Frag) (st : Store) (I H : Hp) : Prop where
  sub : Sub I H
  own : ∀ p ob, (p, ob) ∈ st → I p = none ∧ ∃ o, H p = some o ∧ ObIs K I ob o
  nd : (keys st).Nodup
/-- from one world to a later one -/
structure Stp (st : Store) (I H : Hp) (st' : Store) (I' H' : Hp) : Prop where
  ii : Ex I I'
  hh : ∀ a o, a ∉ keys st → H a = some o → H' a = some o
  nw : ∀ a, I' a ≠ none → I a ≠ none ∨ H a = none ∨ a ∈ keys st ∨ ∃ vs, H a = some (.tup vs)
  ks : ∀ p, p ∈ keys st' → p ∈ keys st ∨ H p = none
theorem Stp.refl (st : Store) (I H : Hp) : Stp st I H st I H := ⟨Ex.refl _, fun _ _ _ h => h, fun _ h => .inl h, fun _ h => .inl h⟩
theorem Stp.trans {st st1 st2 : Store} {I I1 I2 H H1 H2 : Hp} (a : Stp st I H st1 I1 H1) (b : Stp st1 I1 H1 st2 I2 H2) : Stp st I H st2 I2 H2 := by
  have back : ∀ p, p ∉ keys st → H1 p = none → H p = none := fun p hp h => by
    cases e : H p with
    | none => rfl
    | some o =>
      have q := a.hh p o hp e
      rw [h] at q
      cases q
  refine ⟨a.ii.trans b.ii, fun p o hp h => ?_, fun p h => ?_, fun p h => ?_⟩
  · refine b.hh p o (fun z => ?_) (a.hh p o hp h)
    rcases a.ks p z with q | q
    · exact hp q
    · rw [h] at q
      cases q
  · rcases b.nw p h with q | q | q | ⟨vs, q⟩
    · exact a.nw p q
    · by_cases hp : p ∈ keys st
      · exact .inr (.inr (.inl hp))
      · exact .inr (.inl (back p hp q))
    · rcases a.ks p q with q | q
      · exact .inr (.inr (.inl q))
      · exact .inr (.inl q)
    · by_cases hp : p ∈ keys st
      · exact .inr (.inr (.inl hp))
      · cases e : H p with
        | none => exact .inr (.inl rfl)
        | some o =>
          have z := a.hh p o hp e
          rw [q] at z
          cases z
          exact .inr (.inr (.inr ⟨vs, rfl⟩))
  · rcases b.ks p h with q | q
    · exact a.ks p q
    · by_cases hp : p ∈ keys st
      · exact .inl hp
      · exact .inr (back p hp q)
/-- the slots -/
def Sl (K : PySem.W.Frag) (Δ : List Sv) (I : Hp) (σ : St) : Prop := σ.length = Δ.length ∧ ∀ (i : Nat) (s : Sv), Δ[i]? = some s → s = .un ∨ ∃ v, σ[i]? = some (some v) ∧ IsS K I s v
theorem Sl.mono {K : PySem.W.Frag} {Δ : List Sv} {I I' : Hp} {σ : St} (e : Ex I I') (h : Sl K Δ I σ) : Sl K Δ I' σ := ⟨h.1, fun i s hs => (h.2 i s hs).imp id fun ⟨v, a, b⟩ => ⟨v, a, b.mono e⟩⟩
theorem Sl.set {K : PySem.W.Frag} {Δ : List Sv} {I : Hp} {σ : St} (h : Sl K Δ I σ) {i : Nat} {s : Sv} {v : V} (hv : IsS K I s v) : Sl K (Δ.set i s) I (σ.set i (some v)) := by
  refine ⟨by rw [List.length_set, List.length_set]; exact h.1, fun j t ht => ?_⟩
  by_cases e : i = j
  · subst e
    have hl : i < Δ.length := by
      have := (List.getElem?_eq_some_iff.mp ht).1
      rwa [List.length_set] at this
    rw [List.getElem?_set_self hl] at ht
    cases ht
    exact .inr ⟨v, List.getElem?_set_self (by rw [h.1]; exact hl), hv⟩
  · rw [List.getElem?_set_ne e] at ht
    rw [List.getElem?_set_ne e]
    exact h.2 j t ht
/-- an exception: its class, its fields -/
structure Xc where
  C : Addr
  fs : List (Str × Dt)
def XIs (K : PySem.W.Frag) (I H : Hp) (x : Xc) (cls : Value) (d : Option Addr) : Prop := cls = .ref x.C ∧ ((x.fs = [] ∧ d = none) ∨ x.fs ≠ [] ∧ ∃ dd vs, d = some dd ∧ I dd = some (.xd vs) ∧ IsDf K I x.fs vs)
/-- readings -/
abbrev OK := Sv → Store → Prop
abbrev EK := Xc → Store → Prop
abbrev DE := List Sv → Store → OK → EK → Prop
abbrev DT := List Sv → Store → (Bool → Store → Prop) → EK → Prop
abbrev DA := List Sv → Store → (List Sv → Store → Prop) → EK → Prop
structure DN where
  nx : List Sv → Store → Prop
  rt : OK
  bk : List Sv → Store → Prop
  ct : List Sv → Store → Prop
  ex : Xc → List Sv → Store → Prop
abbrev DS := List Sv → Store → DN → Prop
section
variable (K : PySem.W.Frag)
def Cont (st : Store) (I H : Hp) (ok : OK) (Q : VK) : Prop := ∀ s st' v I' H', ok s st' → Wd K st' I' H' → Stp st I H st' I' H' → IsS K I' s v → Q v H'
def ContB (st : Store) (I H : Hp) (ok : Bool → Store → Prop) (Q : Bool → Hp → Prop) : Prop := ∀ b st' I' H', ok b st' → Wd K st' I' H' → Stp st I H st' I' H' → Q b H'
def ContA (st : Store) (I H : Hp) (ok : List Sv → Store → Prop) (Q : List V → Hp → Prop) : Prop := ∀ ss st' vs I' H', ok ss st' → Wd K st' I' H' → Stp st I H st' I' H' → IsSs K I' ss vs → Q vs H'
def ContX (st : Store) (I H : Hp) (ex : EK) (Q : Value → Option Addr → Hp → Prop) : Prop := ∀ x st' cls d I' H', ex x st' → Wd K st' I' H' → Stp st I H st' I' H' → XIs K I' H' x cls d → Q cls d H'
def low (t : DE) (W : WX) : TE := fun σ H Q => ∃ Δ st I ok ex, Wd K st I H ∧ Sl K Δ I σ ∧ t Δ st ok ex ∧ Cont K st I H ok Q ∧ ContX K st I H ex fun cls d H' => W cls d σ H'
def lowT (t : DT) (W : WX) : TT := fun σ H Q => ∃ Δ st I ok ex, Wd K st I H ∧ Sl K Δ I σ ∧ t Δ st ok ex ∧ ContB K st I H ok Q ∧ ContX K st I H ex fun cls d H' => W cls d σ H'
def lowA (t : DA) (W : WX) : TA := fun σ H Q => ∃ Δ st I ok ex, Wd K st I H ∧ Sl K Δ I σ ∧ t Δ st ok ex ∧ ContA K st I H ok Q ∧ ContX K st I H ex fun cls d H' => W cls d σ H'
def ContS (st : Store) (I H : Hp) (n : List Sv → Store → Prop) (Q : St → Hp → Prop) : Prop := ∀ Δ' st' σ' I' H', n Δ' st' → Wd K st' I' H' → Stp st I H st' I' H' → Sl K Δ' I' σ' → Q σ' H'
structure Ends_ (st : Store) (I H : Hp) (N : DN) (W : WX) (D : Ends) : Prop where
  nx : ContS K st I H N.nx D.nx
  rt : Cont K st I H N.rt D.rt
  bk : ContS K st I H N.bk D.bk
  ct : ContS K st I H N.ct D.ct
  ex : ∀ x Δ' st' cls d σ' I' H', N.ex x Δ' st' → Wd K st' I' H' → Stp st I H st' I' H' → Sl K Δ' I' σ' → XIs K I' H' x cls d → W cls d σ' H'
def lowS (t : DS) (W : WX) : TS := fun D σ H => ∃ Δ st I N, Wd K st I H ∧ Sl K Δ I σ ∧ t Δ st N ∧ Ends_ K st I H N W D
end
/-- a tuple that stands in the heap may be known -/
theorem know_tup {K : PySem.W.Frag} {st : Store} {I H : Hp} {q : Addr} {vs : List V} (w : Wd K st I H) (h : H q = some (.tup vs)) : Wd K st (upd I q (.tup vs)) H ∧ Stp st I H st (upd I q (.tup vs)) H := by
  have ex : Ex I (upd I q (.tup vs)) := fun a o e => by
    by_cases z : a = q
    · subst z
      rw [upd_same]
      rcases w.sub a o e with g | ⟨⟨k, g⟩ | ⟨k, g⟩, ob, g2⟩
      · rw [h] at g; exact g
      · rw [h] at g2; cases g2
      · rw [h] at g2; cases g2
    · rw [upd_ne z]; exact e
  refine ⟨⟨fun a o e => ?_, fun p ob hp => ?_, w.nd⟩, ⟨ex, fun _ _ _ e => e, fun a e => ?_, fun _ z => .inl z⟩⟩
  · by_cases z : a = q
    · subst z
      rw [upd_same] at e
      cases e
      exact .inl h
    · rw [upd_ne z] at e
      exact w.sub a o e
  · obtain ⟨h1, o, h2, h3⟩ := w.own p ob hp
    have ne : p ≠ q := fun z => by
      subst z
      rw [h] at h2
      cases h2
      cases h3
    exact ⟨by rw [upd_ne ne]; exact h1, o, h2, h3.mono ex⟩
  · by_cases z : a = q
    · subst z
      exact .inr (.inr (.inr ⟨vs, h⟩))
    · rw [upd_ne z] at e
      exact .inl e
section
variable {K : PySem.W.Frag} {st st1 : Store} {I I1 H H1 : Hp}
theorem Cont.go {ok : OK} {Q : VK} (c : Cont K st I H ok Q) (s : Stp st I H st1 I1 H1) : Cont K st1 I1 H1 ok Q := fun x st' v I' H' h w s' i => c x st' v I' H' h w (s.trans s') i
theorem ContB.go {ok : Bool → Store → Prop} {Q : Bool → Hp → Prop} (c : ContB K st I H ok Q) (s : Stp st I H st1 I1 H1) : ContB K st1 I1 H1 ok Q := fun x st' I' H' h w s' => c x st' I' H' h w (s.trans s')
theorem ContA.go {ok : List Sv → Store → Prop} {Q : List V → Hp → Prop} (c : ContA K st I H ok Q) (s : Stp st I H st1 I1 H1) : ContA K st1 I1 H1 ok Q := fun x st' v I' H' h w s' i => c x st' v I' H' h w (s.trans s') i
theorem ContX.go {ex : EK} {Q : Value → Option Addr → Hp → Prop} (c : ContX K st I H ex Q) (s : Stp st I H st1 I1 H1) : ContX K st1 I1 H1 ex Q := fun x st' cls d I' H' h w s' i => c x st' cls d I' H' h w (s.trans s') i
theorem ContS.go {n : List Sv → Store → Prop} {Q : St → Hp → Prop} (c : ContS K st I H n Q) (s : Stp st I H st1 I1 H1) : ContS K st1 I1 H1 n Q := fun x st' v I' H' h w s' i => c x st' v I' H' h w (s.trans s') i
theorem Ends_.go {N : DN} {W : WX} {D : Ends} (c : Ends_ K st I H N W D) (s : Stp st I H st1 I1 H1) : Ends_ K st1 I1 H1 N W D :=
  ⟨c.nx.go s, c.rt.go s, c.bk.go s, c.ct.go s, fun x Δ' st' cls d σ' I' H' h w s' l i => c.ex x Δ' st' cls d σ' I' H' h w (s.trans s') l i⟩
theorem Cont.now {ok : OK} {Q : VK} (c : Cont K st I H ok Q) (w : Wd K st I H) {s : Sv} {v : V} (h : ok s st) (i : IsS K I s v) : Q v H := c s st v I H h w (Stp.refl _ _ _) i
end
section
variable {X : Cx} {e : Expr} {es : List Expr} {s : Stmt} {ss : List Stmt}
theorem PE.imp {t t' : TE} (h : PE X e t) (i : ∀ σ H Q, t' σ H Q → t σ H Q) : PE X e t' := ⟨fun pins s σ H Q J q => h.run pins s σ H Q J (i σ H Q q)⟩
theorem PT.imp {t t' : TT} (h : PT X e t) (i : ∀ σ H Q, t' σ H Q → t σ H Q) : PT X e t' := ⟨fun pins s σ H Q J q => h.run pins s σ H Q J (i σ H Q q)⟩
theorem PA.imp {t t' : TA} (h : PA X es t) (i : ∀ σ H Q, t' σ H Q → t σ H Q) : PA X es t' := ⟨fun pos pins s σ H Q J q => h.run pos pins s σ H Q J (i σ H Q q)⟩
theorem PS.imp {t t' : TS} (h : PS X s t) (i : ∀ D σ H, t' D σ H → t D σ H) : PS X s t' := ⟨fun pins s σ H D J q => h.run pins s σ H D J (i D σ H q)⟩
theorem PSs.imp {t t' : TS} (h : PSs X ss t) (i : ∀ D σ H, t' D σ H → t D σ H) : PSs X ss t' := ⟨fun pins s σ H D J q => h.run pins s σ H D J (i D σ H q)⟩
end
end DD
namespace DD
open PySem L2
def dVar (i : Nat) : DE := fun Δ st ok _ => match Δ.getD i .un with
  | .un => False
  | s => ok s st
def dC (d : Dt) : DE := fun _ st ok _ => ok (.dat d) st
abbrev G2 := Sv → Sv → Store → OK → Prop
def dOp (g : G2) (ta tb : DE) : DE := fun Δ st ok ex => ta Δ st (fun x st1 => tb Δ st1 (fun y st2 => g x y st2 ok) ex) ex
/-- ints in -/
def gI (C : Int → Int → Prop) (f : Int → Int → Dt) : G2 := fun x y st ok => match x, y with
  | .dat (.int i), .dat (.int j) => C i j ∧ ok (.dat (f i j)) st
  | _, _ => False
def gI0 (f : Int → Int → Dt) : G2 := fun x y st ok => match x, y with
  | .dat (.int i), .dat (.int j) => ok (.dat (f i j)) st
  | _, _ => False
def dAnd (ta tb : DE) : DE := fun Δ st ok ex => ta Δ st (fun x st1 => match x with
  | .dat (.bl c) => (c = true → tb Δ st1 ok ex) ∧ (c = false → ok (.dat (.bl false)) st1)
  | _ => False) ex
def dNot (ta : DE) : DE := fun Δ st ok ex => ta Δ st (fun x st1 => match x with
  | .dat (.bl c) => ok (.dat (.bl (!c))) st1
  | _ => False) ex
def dIf (t : DT) (ta tb : DE) : DE := fun Δ st ok ex => t Δ st (fun c st1 => (c = true → ta Δ st1 ok ex) ∧ (c = false → tb Δ st1 ok ex)) ex
/-- tests -/
def dTest (t : DE) : DT := fun Δ st ok ex => t Δ st (fun x st1 => match x with
  | .dat (.bl c) => ok c st1
  | _ => False) ex
def dAndT (ta tb : DT) : DT := fun Δ st ok ex => ta Δ st (fun c st1 => (c = true → tb Δ st1 ok ex) ∧ (c = false → ok false st1)) ex
def dOrT (ta tb : DT) : DT := fun Δ st ok ex => ta Δ st (fun c st1 => (c = true → ok true st1) ∧ (c = false → tb Δ st1 ok ex)) ex
def dNotT (ta : DT) : DT := fun Δ st ok ex => ta Δ st (fun c st1 => ok (!c) st1) ex
def dChain (g g' : G2) (ta tb tc : DE) : DE := fun Δ st ok ex => ta Δ st (fun x st1 => tb Δ st1 (fun y st2 => g x y st2 fun z st3 => match z with
  | .dat (.bl c) => (c = true → tc Δ st3 (fun w st4 => g' y w st4 ok) ex) ∧ (c = false → ok (.dat (.bl false)) st3)
  | _ => False) ex) ex
/-- arguments -/
def dNil : DA := fun _ st ok _ => ok [] st
def dCons (ta : DE) (tr : DA) : DA := fun Δ st ok ex => ta Δ st (fun x st1 => tr Δ st1 (fun xs st2 => ok (x :: xs) st2) ex) ex
/-- all of it data -/
inductive AllD : List Sv → List Dt → Prop
  | nil : AllD [] []
  | cons {d : Dt} {xs : List Sv} {ds : List Dt} : AllD xs ds → AllD (.dat d :: xs) (d :: ds)
theorem AllD.map : ∀ ds : List Dt, AllD (ds.map Sv.dat) ds
  | [] => .nil
  | _ :: ds => .cons (AllD.map ds)
theorem AllD.mapf {α : Type} (f : α → Dt) : ∀ xs : List α, AllD (xs.map fun x => Sv.dat (f x)) (xs.map f)
  | [] => .nil
  | _ :: xs => .cons (AllD.mapf f xs)
theorem AllD.app : ∀ {xs ys : List Sv} {ds es : List Dt}, AllD xs ds → AllD ys es → AllD (xs ++ ys) (ds ++ es)
  | _, _, _, _, .nil, h => h
  | _, _, _, _, .cons a, h => .cons (AllD.app a h)
def allD? : List Sv → Option (List Dt)
  | [] => some []
  | .dat d :: r => (allD? r).map (d :: ·)
  | _ :: _ => none
theorem allD_of : ∀ {xs : List Sv} {ds : List Dt}, allD? xs = some ds → AllD xs ds
  | [], _, h => by cases h; exact .nil
  | .dat d :: r, ds, h => by
    cases e : allD? r with
    | none =>
      have h' : (allD? r).map (d :: ·) = some ds := h
      rw [e] at h'
      cases h'
    | some es =>
      have h' : (allD? r).map (d :: ·) = some ds := h
      rw [e] at h'
      cases h'
      exact .cons (allD_of e)
  | .un :: _, _, h => by cases h
  | .own _ :: _, _, h => by cases h
/-- displays: data -/
def dTup (t : DA) : DE := fun Δ st ok ex => t Δ st (fun xs st1 => match allD? xs with
  | some ds => ok (.dat (.tup ds)) st1
  | none => False) ex
def dLst (t : DA) : DE := fun Δ st ok ex => t Δ st (fun xs st1 => match allD? xs with
  | some ds => ok (.dat (.lst ds)) st1
  | none => False) ex
/-- a list of one's own -/
def dLstO (t : DA) : DE := fun Δ st ok ex => t Δ st (fun xs st1 => ∀ p, p ∉ keys st1 → ok (.own p) ((p, .lst xs) :: st1)) ex
/-- a call -/
abbrev Ct := List Sv → Store → OK → EK → Prop
def dCall (ct : Ct) (dds : List Dt) (t : DA) : DE := fun Δ st ok ex => t Δ st (fun xs st1 => ct (xs ++ dds.map Sv.dat) st1 ok ex) ex
def lowF (K : PySem.W.Frag) (ct : Ct) : Sp := fun vs H Q E => ∃ ss st I ok ex, Wd K st I H ∧ IsSs K I ss vs ∧ ct ss st ok ex ∧ Cont K st I H ok Q ∧ ContX K st I H ex E
def dNext : DS := fun Δ st N => N.nx Δ st
def dSeq (t u : DS) : DS := fun Δ st N => t Δ st { N with nx := fun Δ1 st1 => u Δ1 st1 N }
def exAt (N : DN) (Δ : List Sv) : EK := fun x st => N.ex x Δ st
def dAsg (i : Nat) (t : DE) : DS := fun Δ st N => t Δ st (fun s st1 => N.nx (Δ.set i s) st1) (exAt N Δ)
def dRet (t : DE) : DS := fun Δ st N => t Δ st (fun s st1 => N.rt s st1) (exAt N Δ)
def dDrop (t : DE) : DS := fun Δ st N => t Δ st (fun _ st1 => N.nx Δ st1) (exAt N Δ)
def dIfS (c : DT) (t u : DS) : DS := fun Δ st N => c Δ st (fun b st1 => (b = true → t Δ st1 N) ∧ (b = false → u Δ st1 N)) (exAt N Δ)
def dBreak : DS := fun Δ st N => N.bk Δ st
section
variable {K : PySem.W.Frag} {W : WX} {st : Store} {I H : Hp}
theorem paired_app {α β : Type} {F : α → β → Prop} : ∀ {xs : List α} {ys : List β} {xs' : List α} {ys' : List β}, Paired F xs ys → Paired F xs' ys' → Paired F (xs ++ xs') (ys ++ ys')
  | _, _, _, _, .nil, h => h
  | _, _, _, _, .cons r t, h => .cons r (paired_app t h)
def LR2 (K : PySem.W.Frag) (r : R2) (g : G2) : Prop := ∀ x y st I H ok Q v w, Wd K st I H → IsS K I x v → IsS K I y w → g x y st ok → Cont K st I H ok Q → r v w H Q
theorem low_var {i : Nat} : ∀ σ H Q, low K (dVar i) W σ H Q → tVar i σ H Q := by
  rintro σ H Q ⟨Δ, st, I, ok, ex, wd, sl, h, c, _⟩
  cases e : Δ[i]? with
  | none =>
    have z : Δ.getD i .un = .un := by rw [List.getD_eq_getElem?_getD, e]; rfl
    unfold dVar at h
    rw [z] at h
    exact h.elim
  | some s =>
    have z : Δ.getD i .un = s := by rw [List.getD_eq_getElem?_getD, e]; rfl
    unfold dVar at h
    rw [z] at h
    rcases sl.2 i s e with q | ⟨v, hv, hi⟩
    · subst q
      exact h.elim
    · refine ⟨v, hv, c.now wd ?_ hi⟩
      cases s with
      | un => exact h.elim
      | dat d => exact h
      | own p => exact h
theorem low_c {d : Dt} {v : V} (hd : ∀ I, IsD K I d v) : ∀ σ H Q, low K (dC d) W σ H Q → tC v σ H Q := by
  rintro σ H Q ⟨Δ, st, I, ok, ex, wd, sl, h, c, _⟩
  exact c.now wd h (.dat (hd I))
/-- from one reading into the next -/
theorem low_go {t : DE} {Δ : List Sv} {σ : St} {ok : OK} {ex : EK} {Q : VK} (wd : Wd K st I H) (sl : Sl K Δ I σ) (h : t Δ st ok ex) (k : ∀ s st' v I' H', ok s st' → Wd K st' I' H' → Stp st I H st' I' H' → IsS K I' s v → Q v H')
    (kx : ContX K st I H ex fun cls d H' => W cls d σ H') : low K t W σ H Q := ⟨Δ, st, I, ok, ex, wd, sl, h, k, kx⟩
theorem low_op {r : R2} {g : G2} {ta tb : DE} (hr : LR2 K r g) : ∀ σ H Q, low K (dOp g ta tb) W σ H Q → tOp r (low K ta W) (low K tb W) σ H Q := by
  rintro σ H Q ⟨Δ, st, I, ok, ex, wd, sl, h, c, cx⟩
  refine low_go wd sl h (fun x st1 v I1 H1 h1 w1 s1 i1 => ?_) cx
  refine low_go w1 (sl.mono s1.ii) h1 (fun y st2 w I2 H2 h2 w2 s2 i2 => ?_) (cx.go s1)
  exact hr x y st2 I2 H2 ok Q v w w2 (i1.mono s2.ii) i2 h2 (c.go (s1.trans s2))
theorem lr_I {C : Int → Int → Prop} {f : Int → Int → Dt} {g : Int → Int → V} (hf : ∀ K I i j, IsD K I (f i j) (g i j)) : LR2 K (rI C g) (gI C f) := by
  intro x y st I H ok Q v w wd ix iy h c
  cases ix with
  | own p => exact h.elim
  | dat hx =>
    cases hx with
    | int i =>
      cases iy with
      | own p => exact h.elim
      | dat hy =>
        cases hy with
        | int j => exact ⟨i, j, rfl, rfl, h.1, c.now wd h.2 (.dat (hf _ _ _ _))⟩
        | _ => exact h.elim
    | _ => cases iy <;> exact h.elim
theorem lr_I0 {f : Int → Int → Dt} {g : Int → Int → V} (hf : ∀ K I i j, IsD K I (f i j) (g i j)) : LR2 K (rI0 g) (gI0 f) := by
  intro x y st I H ok Q v w wd ix iy h c
  cases ix with
  | own p => exact h.elim
  | dat hx =>
    cases hx with
    | int i =>
      cases iy with
      | own p => exact h.elim
      | dat hy =>
        cases hy with
        | int j => exact ⟨i, j, rfl, rfl, c.now wd h (.dat (hf _ _ _ _))⟩
        | _ => exact h.elim
    | _ => cases iy <;> exact h.elim
theorem low_and {ta tb : DE} : ∀ σ H Q, low K (dAnd ta tb) W σ H Q → tAndV (low K ta W) (low K tb W) σ H Q := by
  rintro σ H Q ⟨Δ, st, I, ok, ex, wd, sl, h, c, cx⟩
  refine low_go wd sl h (fun x st1 v I1 H1 h1 w1 s1 i1 => ?_) cx
  cases i1 with
  | own p => exact h1.elim
  | dat hd =>
    cases hd with
    | bl b =>
      refine ⟨b, rfl, ?_⟩
      cases b with
      | true => exact iteT (low_go w1 (sl.mono s1.ii) (h1.1 rfl) (c.go s1) (cx.go s1))
      | false => exact iteF ((c.go s1).now w1 (h1.2 rfl) (.dat (.bl _)))
    | _ => exact h1.elim
theorem low_not {ta : DE} : ∀ σ H Q, low K (dNot ta) W σ H Q → tNotV (low K ta W) σ H Q := by
  rintro σ H Q ⟨Δ, st, I, ok, ex, wd, sl, h, c, cx⟩
  refine low_go wd sl h (fun x st1 v I1 H1 h1 w1 s1 i1 => ?_) cx
  cases i1 with
  | own p => exact h1.elim
  | dat hd =>
    cases hd with
    | bl b => exact ⟨b, rfl, (c.go s1).now w1 h1 (.dat (.bl _))⟩
    | _ => exact h1.elim
theorem lowT_test {ta : DE} : ∀ σ H Q, lowT K (dTest ta) W σ H Q → tTest (low K ta W) σ H Q := by
  rintro σ H Q ⟨Δ, st, I, ok, ex, wd, sl, h, c, cx⟩
  refine low_go wd sl h (fun x st1 v I1 H1 h1 w1 s1 i1 => ?_) cx
  cases i1 with
  | own p => exact h1.elim
  | dat hd =>
    cases hd with
    | bl b => exact ⟨b, rfl, c b st1 I1 H1 h1 w1 s1⟩
    | _ => exact h1.elim
theorem lowT_B {ta : DE} : ∀ σ H Q, lowT K (dTest ta) W σ H Q → tB (low K ta W) σ H Q := lowT_test
theorem lowT_go {t : DT} {Δ : List Sv} {σ : St} {ok : Bool → Store → Prop} {ex : EK} {Q : Bool → Hp → Prop} (wd : Wd K st I H) (sl : Sl K Δ I σ) (h : t Δ st ok ex) (k : ContB K st I H ok Q)
    (kx : ContX K st I H ex fun cls d H' => W cls d σ H') : lowT K t W σ H Q := ⟨Δ, st, I, ok, ex, wd, sl, h, k, kx⟩
theorem lowT_and {ta tb : DT} : ∀ σ H Q, lowT K (dAndT ta tb) W σ H Q → tAnd (lowT K ta W) (lowT K tb W) σ H Q := by
  rintro σ H Q ⟨Δ, st, I, ok, ex, wd, sl, h, c, cx⟩
  refine lowT_go wd sl h (fun b st1 I1 H1 h1 w1 s1 => ?_) cx
  cases b with
  | true => exact iteT (lowT_go w1 (sl.mono s1.ii) (h1.1 rfl) (c.go s1) (cx.go s1))
  | false => exact iteF ((c.go s1) _ _ _ _ (h1.2 rfl) w1 (Stp.refl _ _ _))
theorem lowT_or {ta tb : DT} : ∀ σ H Q, lowT K (dOrT ta tb) W σ H Q → tOr (lowT K ta W) (lowT K tb W) σ H Q := by
  rintro σ H Q ⟨Δ, st, I, ok, ex, wd, sl, h, c, cx⟩
  refine lowT_go wd sl h (fun b st1 I1 H1 h1 w1 s1 => ?_) cx
  cases b with
  | true => exact iteT ((c.go s1) _ _ _ _ (h1.1 rfl) w1 (Stp.refl _ _ _))
  | false => exact iteF (lowT_go w1 (sl.mono s1.ii) (h1.2 rfl) (c.go s1) (cx.go s1))
theorem lowT_not {ta : DT} : ∀ σ H Q, lowT K (dNotT ta) W σ H Q → tNot (lowT K ta W) σ H Q := by
  rintro σ H Q ⟨Δ, st, I, ok, ex, wd, sl, h, c, cx⟩
  exact lowT_go wd sl h (fun b st1 I1 H1 h1 w1 s1 => c _ _ _ _ h1 w1 s1) cx
theorem low_if {t : DT} {ta tb : DE} : ∀ σ H Q, low K (dIf t ta tb) W σ H Q → tIf (lowT K t W) (low K ta W) (low K tb W) σ H Q := by
  rintro σ H Q ⟨Δ, st, I, ok, ex, wd, sl, h, c, cx⟩
  refine lowT_go wd sl h (fun b st1 I1 H1 h1 w1 s1 => ?_) cx
  cases b with
  | true => exact iteT (low_go w1 (sl.mono s1.ii) (h1.1 rfl) (c.go s1) (cx.go s1))
  | false => exact iteF (low_go w1 (sl.mono s1.ii) (h1.2 rfl) (c.go s1) (cx.go s1))
theorem low_chain {r r' : R2} {g g' : G2} {ta tb tc : DE} (hr : LR2 K r g) (hr' : LR2 K r' g') : ∀ σ H Q, low K (dChain g g' ta tb tc) W σ H Q → tChain r r' (low K ta W) (low K tb W) (low K tc W) σ H Q := by
  rintro σ H Q ⟨Δ, st, I, ok, ex, wd, sl, h, c, cx⟩
  refine low_go wd sl h (fun x st1 v I1 H1 h1 w1 s1 i1 => ?_) cx
  refine low_go w1 (sl.mono s1.ii) h1 (fun y st2 w I2 H2 h2 w2 s2 i2 => ?_) (cx.go s1)
  refine hr x y st2 I2 H2 _ _ v w w2 (i1.mono s2.ii) i2 h2 fun z st3 u I3 H3 h3 w3 s3 i3 => ?_
  have s13 := (s1.trans s2).trans s3
  cases i3 with
  | own p => exact h3.elim
  | dat hd =>
    cases hd with
    | bl b =>
      refine ⟨b, rfl, ?_⟩
      cases b with
      | true =>
        refine iteT (low_go w3 (sl.mono s13.ii) (h3.1 rfl) (fun z' st4 u' I4 H4 h4 w4 s4 i4 => ?_) (cx.go s13))
        exact hr' y z' st4 I4 H4 ok Q w u' w4 (i2.mono (s3.ii.trans s4.ii)) i4 h4 (c.go (s13.trans s4))
      | false => exact iteF ((c.go s13).now w3 (h3.2 rfl) (.dat (.bl _)))
    | _ => exact h3.elim
theorem lowA_nil : ∀ σ H Q, lowA K dNil W σ H Q → tNil σ H Q := by
  rintro σ H Q ⟨Δ, st, I, ok, ex, wd, sl, h, c, cx⟩
  exact c _ _ _ _ _ h wd (Stp.refl _ _ _) .nil
theorem lowA_go {t : DA} {Δ : List Sv} {σ : St} {ok : List Sv → Store → Prop} {ex : EK} {Q : List V → Hp → Prop} (wd : Wd K st I H) (sl : Sl K Δ I σ) (h : t Δ st ok ex) (k : ContA K st I H ok Q)
    (kx : ContX K st I H ex fun cls d H' => W cls d σ H') : lowA K t W σ H Q := ⟨Δ, st, I, ok, ex, wd, sl, h, k, kx⟩
theorem lowA_cons {ta : DE} {tr : DA} : ∀ σ H Q, lowA K (dCons ta tr) W σ H Q → tCons (low K ta W) (lowA K tr W) σ H Q := by
  rintro σ H Q ⟨Δ, st, I, ok, ex, wd, sl, h, c, cx⟩
  refine low_go wd sl h (fun x st1 v I1 H1 h1 w1 s1 i1 => ?_) cx
  refine lowA_go w1 (sl.mono s1.ii) h1 (fun xs st2 vs I2 H2 h2 w2 s2 i2 => ?_) (cx.go s1)
  exact c _ _ _ _ _ h2 w2 (s1.trans s2) (.cons (i1.mono s2.ii) i2)
theorem isDs_of : ∀ {xs : List Sv} {ds : List Dt} {vs : List V}, AllD xs ds → IsSs K I xs vs → IsDs K I ds vs
  | _, _, _, .nil, .nil => .nil
  | _, _, _, .cons a, .cons (.dat h) r => .cons h (isDs_of a r)
/-- a new known object -/
theorem new_known {p : Addr} {o : HO} (w : Wd K st I H) (hp : H p = none) : Wd K st (upd I p o) (upd H p o) ∧ Stp st I H st (upd I p o) (upd H p o) := by
  have ip : I p = none := w.sub.none hp
  refine ⟨⟨fun a u e => ?_, fun q ob hq => ?_, w.nd⟩, ⟨Ex.new ip, fun a u _ e => ?_, fun a e => ?_, fun q hq => .inl hq⟩⟩
  · by_cases h : a = p
    · subst h
      rw [upd_same] at e
      rw [upd_same]
      exact .inl e
    · rw [upd_ne h] at e
      rw [upd_ne h]
      exact w.sub a u e
  · obtain ⟨h1, u, h2, h3⟩ := w.own q ob hq
    have ne : q ≠ p := ne_of_none h2 hp
    exact ⟨by rw [upd_ne ne]; exact h1, u, by rw [upd_ne ne]; exact h2, h3.mono (Ex.new ip)⟩
  · rw [upd_ne (ne_of_none e hp)]
    exact e
  · by_cases h : a = p
    · subst h
      exact .inr (.inl hp)
    · rw [upd_ne h] at e
      exact .inl e
/-- a new object of one's own -/
theorem new_own {p : Addr} {o : HO} {ob : Ob} (w : Wd K st I H) (hp : H p = none) (ho : ObIs K I ob o) : p ∉ keys st ∧ Wd K ((p, ob) :: st) I (upd H p o) ∧ Stp st I H ((p, ob) :: st) I (upd H p o) := by
  have ip : I p = none := w.sub.none hp
  have np : p ∉ keys st := fun hm => by
    obtain ⟨⟨q, ob'⟩, hq, e⟩ := List.mem_map.mp hm
    obtain ⟨_, u, h2, _⟩ := w.own q ob' hq
    have e' : q = p := e
    rw [e', hp] at h2
    cases h2
  refine ⟨np, ⟨fun a u e => ?_, fun q ob' hq => ?_, List.nodup_cons.mpr ⟨np, w.nd⟩⟩, ⟨Ex.refl _, fun a u _ e => ?_, fun a e => .inl e, fun q hq => ?_⟩⟩
  · have ne : a ≠ p := ne_of_none e ip
    rw [upd_ne ne]
    exact w.sub a u e
  · rcases List.mem_cons.mp hq with e | hq
    · cases e
      exact ⟨ip, o, upd_same, ho⟩
    · obtain ⟨h1, u, h2, h3⟩ := w.own q ob' hq
      exact ⟨h1, u, by rw [upd_ne (ne_of_none h2 hp)]; exact h2, h3⟩
  · rw [upd_ne (ne_of_none e hp)]
    exact e
  · rcases List.mem_cons.mp hq with e | hq
    · have e' : q = p := e
      subst e'
      exact .inr hp
    · exact .inl hq
theorem low_tup {t : DA} : ∀ σ H Q, low K (dTup fun Δ st ok ex => t Δ st (fun xs st1 => xs.length ≤ sizeLine ∧ ok xs st1) ex) W σ H Q → tTup (lowA K t W) σ H Q := by
  rintro σ H Q ⟨Δ, st, I, ok, ex, wd, sl, h, c, cx⟩
  refine lowA_go wd sl h (fun xs st1 vs I1 H1 h1 w1 s1 i1 => ?_) cx
  obtain ⟨hl, h1⟩ := h1
  have el : xs.length = vs.length := i1.length
  refine ⟨by rw [← el]; exact hl, fun p hp => ?_⟩
  cases e : allD? xs with
  | none => simp only [e] at h1
  | some ds =>
    simp only [e] at h1
    obtain ⟨w2, s2⟩ := new_known (o := .tup vs) w1 hp
    exact c _ _ _ _ _ h1 w2 (s1.trans s2) (.dat (.tup (.inl upd_same) (IsDs.mono (Ex.new (w1.sub.none hp)) (isDs_of (allD_of e) i1))))
theorem low_lst {t : DA} : ∀ σ H Q, low K (dLst fun Δ st ok ex => t Δ st (fun xs st1 => xs.length ≤ sizeLine ∧ ok xs st1) ex) W σ H Q → tLst (lowA K t W) σ H Q := by
  rintro σ H Q ⟨Δ, st, I, ok, ex, wd, sl, h, c, cx⟩
  refine lowA_go wd sl h (fun xs st1 vs I1 H1 h1 w1 s1 i1 => ?_) cx
  obtain ⟨hl, h1⟩ := h1
  have el : xs.length = vs.length := i1.length
  refine ⟨by rw [← el]; exact hl, fun p hp => ?_⟩
  cases e : allD? xs with
  | none => simp only [e] at h1
  | some ds =>
    simp only [e] at h1
    obtain ⟨w2, s2⟩ := new_known (o := .lst vs) w1 hp
    exact c _ _ _ _ _ h1 w2 (s1.trans s2) (.dat (.lst upd_same (IsDs.mono (Ex.new (w1.sub.none hp)) (isDs_of (allD_of e) i1))))
theorem low_lstO {t : DA} : ∀ σ H Q, low K (dLstO fun Δ st ok ex => t Δ st (fun xs st1 => xs.length ≤ sizeLine ∧ ok xs st1) ex) W σ H Q → tLst (lowA K t W) σ H Q := by
  rintro σ H Q ⟨Δ, st, I, ok, ex, wd, sl, h, c, cx⟩
  refine lowA_go wd sl h (fun xs st1 vs I1 H1 h1 w1 s1 i1 => ?_) cx
  obtain ⟨hl, h1⟩ := h1
  have el : xs.length = vs.length := i1.length
  refine ⟨by rw [← el]; exact hl, fun p hp => ?_⟩
  obtain ⟨np, w2, s2⟩ := new_own (o := .lst vs) (ob := .lst xs) w1 hp (.lst i1)
  exact c _ _ _ _ _ (h1 p np) w2 (s1.trans s2) (.own p)
theorem low_call {ct : Ct} {dds : List Dt} {dvs : List V} {t : DA} (hd : ∀ I, IsSs K I (dds.map Sv.dat) dvs) : ∀ σ H Q, low K (dCall ct dds t) W σ H Q → tCallSD (lowF K ct) dvs (WE W) (lowA K t W) σ H Q := by
  rintro σ H Q ⟨Δ, st, I, ok, ex, wd, sl, h, c, cx⟩
  refine lowA_go wd sl h (fun xs st1 vs I1 H1 h1 w1 s1 i1 => ?_) cx
  exact ⟨_, st1, I1, ok, ex, w1, paired_app i1 (hd I1), h1, c.go s1, cx.go s1⟩
theorem lowS_go {t : DS} {Δ : List Sv} {σ : St} {N : DN} {D : Ends} (wd : Wd K st I H) (sl : Sl K Δ I σ) (h : t Δ st N) (e : Ends_ K st I H N W D) : lowS K t W D σ H := ⟨Δ, st, I, N, wd, sl, h, e⟩
theorem lowS_next : ∀ D σ H, lowS K dNext W D σ H → tNext D σ H := by
  rintro D σ H ⟨Δ, st, I, N, wd, sl, h, e⟩
  exact e.nx _ _ _ _ _ h wd (Stp.refl _ _ _) sl
theorem lowS_seq {t u : DS} : ∀ D σ H, lowS K (dSeq t u) W D σ H → tSeq (lowS K t W) (lowS K u W) D σ H := by
  rintro D σ H ⟨Δ, st, I, N, wd, sl, h, e⟩
  exact lowS_go (t := t) wd sl h ⟨fun Δ1 st1 σ1 I1 H1 h1 w1 s1 l1 => lowS_go w1 l1 h1 (e.go s1), e.rt, e.bk, e.ct, e.ex⟩
theorem cx_of {Δ : List Sv} {σ : St} {N : DN} {D : Ends} (sl : Sl K Δ I σ) (e : Ends_ K st I H N W D) : ContX K st I H (exAt N Δ) fun cls d H' => W cls d σ H' := fun x st' cls d I' H' h w s i => e.ex x Δ st' cls d σ I' H' h w s (sl.mono s.ii) i
theorem lowS_asg {i : Nat} {t : DE} : ∀ D σ H, lowS K (dAsg i t) W D σ H → tAsg (low K t W) (gName i) D σ H := by
  rintro D σ H ⟨Δ, st, I, N, wd, sl, h, e⟩
  exact low_go wd sl h (fun s st1 v I1 H1 h1 w1 s1 i1 => e.nx _ _ _ _ _ h1 w1 s1 ((sl.mono s1.ii).set i1)) (cx_of sl e)
theorem lowS_ret {t : DE} : ∀ D σ H, lowS K (dRet t) W D σ H → tRet (low K t W) D σ H := by
  rintro D σ H ⟨Δ, st, I, N, wd, sl, h, e⟩
  exact low_go wd sl h e.rt (cx_of sl e)
theorem lowS_drop {t : DE} : ∀ D σ H, lowS K (dDrop t) W D σ H → tDrop (low K t W) D σ H := by
  rintro D σ H ⟨Δ, st, I, N, wd, sl, h, e⟩
  exact low_go wd sl h (fun s st1 v I1 H1 h1 w1 s1 i1 => e.nx _ _ _ _ _ h1 w1 s1 (sl.mono s1.ii)) (cx_of sl e)
theorem lowS_if {c : DT} {t u : DS} : ∀ D σ H, lowS K (dIfS c t u) W D σ H → tIfS (lowT K c W) (lowS K t W) (lowS K u W) D σ H := by
  rintro D σ H ⟨Δ, st, I, N, wd, sl, h, e⟩
  refine lowT_go wd sl h (fun b st1 I1 H1 h1 w1 s1 => ?_) (cx_of sl e)
  cases b with
  | true => exact iteT (lowS_go w1 (sl.mono s1.ii) (h1.1 rfl) (e.go s1))
  | false => exact iteF (lowS_go w1 (sl.mono s1.ii) (h1.2 rfl) (e.go s1))
theorem lowS_break : ∀ D σ H, lowS K dBreak W D σ H → tBreak D σ H := by
  rintro D σ H ⟨Δ, st, I, N, wd, sl, h, e⟩
  exact e.bk _ _ _ _ _ h wd (Stp.refl _ _ _) sl
end
end DD
namespace DD
open PySem L2
/-- what is done with the items of a sequence x -/
def withL (x : Sv) (st : Store) (k : List Sv → Prop) : Prop := match x with
  | .dat (.lst ds) => k (ds.map .dat)
  | .dat (.fls ds) => k (ds.map .dat)
  | .own p => ∃ (j : Nat) (xs : List Sv), st[j]? = some (p, Ob.lst xs) ∧ k xs
  | _ => False
def withT (x : Sv) (k : List Sv → Prop) : Prop := match x with
  | .dat (.tup ds) => k (ds.map .dat)
  | .dat (.ktu ds) => k (ds.map .dat)
  | _ => False
def withI (x : Sv) (k : Int → Prop) : Prop := match x with
  | .dat (.int i) => k i
  | _ => False
section
variable {K : PySem.W.Frag} {W : WX} {st : Store} {I H : Hp} {x : Sv} {v : V}
theorem isSs_of : ∀ {ds : List Dt} {vs : List V}, IsDs K I ds vs → IsSs K I (ds.map .dat) vs
  | _, _, .nil => .nil
  | _, _, .cons h r => .cons (.dat h) (isSs_of r)
theorem paired_len {α β : Type} {F : α → β → Prop} : ∀ {xs : List α} {ys : List β}, Paired F xs ys → xs.length = ys.length
  | _, _, .nil => rfl
  | _, _, .cons _ t => congrArg (· + 1) (paired_len t)
theorem paired_at {α β : Type} {F : α → β → Prop} : ∀ {xs : List α} {ys : List β}, Paired F xs ys → ∀ {i : Nat} {a : α}, xs[i]? = some a → ∃ b, ys[i]? = some b ∧ F a b
  | _, _, .nil, i, a, h => by simp at h
  | _, _, .cons r t, 0, a, h => by
    simp at h
    subst h
    exact ⟨_, rfl, r⟩
  | _, _, .cons r t, i + 1, a, h => by
    obtain ⟨b, h1, h2⟩ := paired_at t (i := i) (a := a) (by simpa using h)
    exact ⟨b, by simpa using h1, h2⟩
theorem paired_back {α β : Type} {F : α → β → Prop} : ∀ {xs : List α} {ys : List β}, Paired F xs ys → ∀ {i : Nat} {b : β}, ys[i]? = some b → ∃ a, xs[i]? = some a ∧ F a b
  | _, _, .nil, i, a, h => by simp at h
  | _, _, .cons r t, 0, a, h => by
    simp at h
    subst h
    exact ⟨_, rfl, r⟩
  | _, _, .cons r t, i + 1, a, h => by
    obtain ⟨b, h1, h2⟩ := paired_back t (i := i) (b := a) (by simpa using h)
    exact ⟨b, by simpa using h1, h2⟩
theorem paired_set {α β : Type} {F : α → β → Prop} {a : α} {b : β} (r : F a b) : ∀ {xs : List α} {ys : List β}, Paired F xs ys → ∀ i, Paired F (xs.set i a) (ys.set i b)
  | _, _, .nil, _ => .nil
  | _, _, .cons _ t, 0 => .cons r t
  | _, _, .cons q t, i + 1 => .cons q (paired_set r t i)
theorem paired_take {α β : Type} {F : α → β → Prop} : ∀ {xs : List α} {ys : List β}, Paired F xs ys → ∀ n, Paired F (xs.take n) (ys.take n)
  | _, _, h, 0 => by simp only [List.take_zero]; exact .nil
  | _, _, .nil, n + 1 => .nil
  | _, _, .cons r t, n + 1 => .cons r (paired_take t n)
theorem paired_drop {α β : Type} {F : α → β → Prop} : ∀ {xs : List α} {ys : List β}, Paired F xs ys → ∀ n, Paired F (xs.drop n) (ys.drop n)
  | _, _, h, 0 => h
  | _, _, .nil, n + 1 => .nil
  | _, _, .cons r t, n + 1 => paired_drop t n
theorem atI_paired {α β : Type} {F : α → β → Prop} {xs : List α} {ys : List β} (h : Paired F xs ys) {i : Int} {a : α} (e : atI xs i = some a) : ∃ b, atI ys i = some b ∧ F a b := by
  unfold atI at e ⊢
  rw [← paired_len h]
  cases q : ixN xs.length i with
  | none =>
    rw [q] at e
    cases e
  | some j =>
    rw [q] at e
    exact paired_at h e
theorem own_at {p : Addr} {ob : Ob} (w : Wd K st I H) {j : Nat} (h : st[j]? = some (p, ob)) : ∃ o, H p = some o ∧ ObIs K I ob o := (w.own p ob (List.mem_of_getElem? h)).2
/-- a list, to be read -/
theorem withL_rd {k : List Sv → Prop} (w : Wd K st I H) (i : IsS K I x v) (h : withL x st k) : ∃ a vs xs, v = .ref a ∧ SqL K H a vs ∧ IsSs K I xs vs ∧ k xs := by
  cases i with
  | own p =>
    obtain ⟨j, xs, hj, hk⟩ := h
    obtain ⟨o, ho, io⟩ := own_at w hj
    cases io with
    | lst hs => exact ⟨p, _, xs, rfl, .inl (.inl ho), hs, hk⟩
  | dat hd =>
    cases hd with
    | lst h1 h2 => exact ⟨_, _, _, rfl, w.sub.sl (.inl (.inl h1)), isSs_of h2, h⟩
    | fls h1 h2 => exact ⟨_, _, _, rfl, w.sub.sl h1, isSs_of h2, h⟩
    | _ => exact h.elim
/-- .. that stands in the heap as it is -/
def withX (x : Sv) (st : Store) (k : List Sv → Prop) : Prop := match x with
  | .dat (.lst ds) => k (ds.map .dat)
  | .own p => ∃ (j : Nat) (xs : List Sv), st[j]? = some (p, Ob.lst xs) ∧ k xs
  | _ => False
theorem withX_rd {k : List Sv → Prop} (w : Wd K st I H) (i : IsS K I x v) (h : withX x st k) : ∃ a vs xs, v = .ref a ∧ H a = some (.lst vs) ∧ IsSs K I xs vs ∧ k xs := by
  cases i with
  | own p =>
    obtain ⟨j, xs, hj, hk⟩ := h
    obtain ⟨o, ho, io⟩ := own_at w hj
    cases io with
    | lst hs => exact ⟨p, _, xs, rfl, ho, hs, hk⟩
  | dat hd =>
    cases hd with
    | lst h1 h2 => exact ⟨_, _, _, rfl, w.sub.at h1 (by intro k z; cases z) (by intro k z; cases z), isSs_of h2, h⟩
    | _ => exact h.elim
theorem withT_rd {k : List Sv → Prop} (w : Wd K st I H) (i : IsS K I x v) (h : withT x k) : ∃ a vs xs, v = .ref a ∧ SqT K H a vs ∧ IsSs K I xs vs ∧ k xs := by
  cases i with
  | own p => exact h.elim
  | dat hd =>
    cases hd with
    | tup h1 h2 => exact ⟨_, _, _, rfl, w.sub.st h1.st, isSs_of h2, h⟩
    | ktu h1 h2 => exact ⟨_, _, _, rfl, w.sub.st h1, isSs_of h2, h⟩
    | _ => exact h.elim
theorem withI_rd {k : Int → Prop} (i : IsS K I x v) (h : withI x k) : ∃ n, v = .int n ∧ k n := by
  cases i with
  | own p => exact h.elim
  | dat hd =>
    cases hd with
    | int n => exact ⟨n, rfl, h⟩
    | _ => exact h.elim
end
/-- xs[i] -/
def gIxL : G2 := fun x y st ok => withL x st fun xs => withI y fun i => ∃ s, atI xs i = some s ∧ ok s st
def gIxT : G2 := fun x y st ok => withT x fun xs => withI y fun i => ∃ s, atI xs i = some s ∧ ok s st
/-- xs + ys, the result known -/
def gCat : G2 := fun x y st ok => withX x st fun xs => withX y st fun ys => xs.length + ys.length ≤ sizeLine ∧ ∃ ds, AllD (xs ++ ys) ds ∧ ok (.dat (.lst ds)) st
/-- a call of a built-in -/
abbrev GC := List Sv → Store → OK → Prop
def dCB (g : GC) (t : DA) : DE := fun Δ st ok ex => t Δ st (fun xs st1 => g xs st1 ok) ex
def gInt : GC := fun xs st ok => match xs with
  | [.dat (.int i)] => ok (.dat (.int i)) st
  | [.dat (.bl k)] => ok (.dat (.int (if k then 1 else 0))) st
  | _ => False
def gLenL : GC := fun xs st ok => match xs with
  | [x] => withL x st fun ys => ok (.dat (.int ys.length)) st
  | _ => False
def gLenT : GC := fun xs st ok => match xs with
  | [x] => withT x fun ys => ok (.dat (.int ys.length)) st
  | _ => False
def gMax2 : GC := fun xs st ok => match xs with
  | [.dat (.int i), .dat (.int j)] => ok (.dat (.int (if j > i then j else i))) st
  | _ => False
def gMin2 : GC := fun xs st ok => match xs with
  | [.dat (.int i), .dat (.int j)] => ok (.dat (.int (if j < i then j else i))) st
  | _ => False
/-- list(x): known | of one's own -/
def gListL : GC := fun xs st ok => match xs with
  | [x] => withL x st fun ys => ∃ ds, AllD ys ds ∧ ok (.dat (.lst ds)) st
  | _ => False
def gListLO : GC := fun xs st ok => match xs with
  | [x] => withL x st fun ys => ∀ p, p ∉ keys st → ok (.own p) ((p, .lst ys) :: st)
  | _ => False
/-- o[i] = v -/
def dSetL (tv to ti : DE) : DS := fun Δ st N => tv Δ st (fun v st1 => to Δ st1 (fun o st2 => ti Δ st2 (fun y st3 => match o with
  | .own p => withI y fun i => ∃ (j : Nat) (xs : List Sv) (m : Nat), st3[j]? = some (p, Ob.lst xs) ∧ ixN xs.length i = some m ∧ N.nx Δ (st3.set j (p, .lst (xs.set m v)))
  | _ => False) (exAt N Δ)) (exAt N Δ)) (exAt N Δ)
/-- xs.append(e) -/
def dApp (to te : DE) : DS := fun Δ st N => to Δ st (fun o st1 => match o with
  | .own p => (∃ (j : Nat) (xs : List Sv), st1[j]? = some (p, Ob.lst xs)) ∧ te Δ st1 (fun v st2 => ∃ (j : Nat) (xs : List Sv), st2[j]? = some (p, Ob.lst xs) ∧ xs.length < sizeLine ∧ N.nx Δ (st2.set j (p, .lst (xs ++ [v])))) (exAt N Δ)
  | _ => False) (exAt N Δ)
/-- targets -/
abbrev DG := Sv → List Sv → Store → (List Sv → Store → Prop) → Prop
def dgName (i : Nat) : DG := fun s Δ st k => k (Δ.set i s) st
abbrev DGs := List Sv → List Sv → Store → (List Sv → Store → Prop) → Prop
def dgNil : DGs := fun ss Δ st k => match ss with
  | [] => k Δ st
  | _ => False
def dgCons (g : DG) (u : DGs) : DGs := fun ss Δ st k => match ss with
  | s :: r => g s Δ st fun Δ1 st1 => u r Δ1 st1 k
  | [] => False
def dgTup (n : Nat) (u : DGs) : DG := fun s Δ st k => withT s fun ss => ss.length = n ∧ u ss Δ st k
def lowG (K : PySem.W.Frag) (g : DG) : TG := fun v σ H Q => ∃ s Δ st I k, Wd K st I H ∧ Sl K Δ I σ ∧ IsS K I s v ∧ g s Δ st k ∧ ContS K st I H k Q
def lowGs (K : PySem.W.Frag) (g : DGs) : TGs := fun vs σ H Q => ∃ ss Δ st I k, Wd K st I H ∧ Sl K Δ I σ ∧ IsSs K I ss vs ∧ g ss Δ st k ∧ ContS K st I H k Q
def dAsgG (g : DG) (t : DE) : DS := fun Δ st N => t Δ st (fun s st1 => g s Δ st1 N.nx) (exAt N Δ)
/-- for, over a list, a tuple -/
@[irreducible] def loopD (ds : List Sv) (g : DG) (body : DS) (Δ : List Sv) (st : Store) (N : DN) : Prop := ∃ J : Nat → List Sv → Store → Prop, J 0 Δ st ∧
  (∀ i d Δ' st', ds[i]? = some d → J i Δ' st' → g d Δ' st' fun Δ2 st2 => body Δ2 st2 { N with nx := J (i + 1), ct := J (i + 1), bk := N.nx }) ∧ ∀ Δ' st', J ds.length Δ' st' → N.nx Δ' st'
theorem loopD_eq (ds : List Sv) (g : DG) (body : DS) (Δ : List Sv) (st : Store) (N : DN) : loopD ds g body Δ st N = (∃ J : Nat → List Sv → Store → Prop, J 0 Δ st ∧
  (∀ i d Δ' st', ds[i]? = some d → J i Δ' st' → g d Δ' st' fun Δ2 st2 => body Δ2 st2 { N with nx := J (i + 1), ct := J (i + 1), bk := N.nx }) ∧ ∀ Δ' st', J ds.length Δ' st' → N.nx Δ' st') := by
  unfold loopD
  rfl
section
variable {K : PySem.W.Frag} {W : WX} {st : Store} {I H : Hp}
theorem lr_ixL : LR2 K (rIxL K) gIxL := by
  intro x y st I H ok Q v w wd ix iy h c
  obtain ⟨a, vs, xs, rfl, hs, hx, h⟩ := withL_rd wd ix h
  obtain ⟨n, rfl, s, hat, h⟩ := withI_rd iy h
  obtain ⟨u, hu, iu⟩ := atI_paired hx hat
  exact ⟨a, vs, n, u, rfl, rfl, hs, hu, c.now wd h iu⟩
theorem lr_ixT : LR2 K (rIxT K) gIxT := by
  intro x y st I H ok Q v w wd ix iy h c
  obtain ⟨a, vs, xs, rfl, hs, hx, h⟩ := withT_rd wd ix h
  obtain ⟨n, rfl, s, hat, h⟩ := withI_rd iy h
  obtain ⟨u, hu, iu⟩ := atI_paired hx hat
  exact ⟨a, vs, n, u, rfl, rfl, hs, hu, c.now wd h iu⟩
theorem lr_cat : LR2 K rCat gCat := by
  intro x y st I H ok Q v w wd ix iy h c
  obtain ⟨a, vs, xs, rfl, hs, hx, h⟩ := withX_rd wd ix h
  obtain ⟨b, us, ys, rfl, ht, hy, hl, h⟩ := withX_rd wd iy h
  refine ⟨a, b, vs, us, rfl, rfl, hs, ht, by rw [← paired_len hx, ← paired_len hy]; exact hl, fun p hp => ?_⟩
  obtain ⟨ds, e, h⟩ := h
  obtain ⟨w2, s2⟩ := new_known (o := .lst (vs ++ us)) wd hp
  exact c _ _ _ _ _ h w2 s2 (.dat (.lst upd_same (IsDs.mono (Ex.new (wd.sub.none hp)) (isDs_of e (paired_app hx hy)))))
def LRC (r : List V → Hp → VK → Prop) (g : GC) : Prop := ∀ xs st I H ok Q vs, Wd K st I H → IsSs K I xs vs → g xs st ok → Cont K st I H ok Q → r vs H Q
theorem low_cb {r : List V → Hp → VK → Prop} {g : GC} {t : DA} (hr : LRC (K := K) r g) : ∀ σ H Q, low K (dCB g t) W σ H Q → tCB r (lowA K t W) σ H Q := by
  rintro σ H Q ⟨Δ, st, I, ok, ex, wd, sl, h, c, cx⟩
  exact lowA_go wd sl h (fun xs st1 vs I1 H1 h1 w1 s1 i1 => hr _ _ _ _ _ _ _ w1 i1 h1 (c.go s1)) cx
theorem one_of {xs : List Sv} {vs : List V} {x : Sv} (e : xs = [x]) (h : IsSs K I xs vs) : ∃ v, vs = [v] ∧ IsS K I x v := by
  subst e
  cases h with
  | cons a b =>
    cases b
    exact ⟨_, rfl, a⟩
theorem lc_int : LRC (K := K) (fun xs H Q => (∃ i, xs = [.int i] ∧ Q (.int i) H) ∨ ∃ k, xs = [.bl k] ∧ Q (.int (if k then 1 else 0)) H) gInt := by
  intro xs st I H ok Q vs wd ix h c
  unfold gInt at h
  split at h
  · obtain ⟨v, rfl, i⟩ := one_of rfl ix
    cases i with
    | dat hd =>
      cases hd
      exact .inl ⟨_, rfl, c.now wd h (.dat (.int _))⟩
  · obtain ⟨v, rfl, i⟩ := one_of rfl ix
    cases i with
    | dat hd =>
      cases hd
      exact .inr ⟨_, rfl, c.now wd h (.dat (.int _))⟩
  · exact h.elim
theorem lc_lenL : LRC (K := K) (fun xs H Q => ∃ p ys, xs = [.ref p] ∧ (SqL K H p ys ∨ SqT K H p ys) ∧ Q (.int ys.length) H) gLenL := by
  intro xs st I H ok Q vs wd ix h c
  unfold gLenL at h
  split at h
  · obtain ⟨v, rfl, i⟩ := one_of rfl ix
    obtain ⟨a, us, ys, rfl, hs, hx, h⟩ := withL_rd wd i h
    exact ⟨a, us, rfl, .inl hs, c.now wd h (by rw [paired_len hx]; exact .dat (.int _))⟩
  · exact h.elim
theorem lc_lenT : LRC (K := K) (fun xs H Q => ∃ p ys, xs = [.ref p] ∧ (SqL K H p ys ∨ SqT K H p ys) ∧ Q (.int ys.length) H) gLenT := by
  intro xs st I H ok Q vs wd ix h c
  unfold gLenT at h
  split at h
  · obtain ⟨v, rfl, i⟩ := one_of rfl ix
    obtain ⟨a, us, ys, rfl, hs, hx, h⟩ := withT_rd wd i h
    exact ⟨a, us, rfl, .inr hs, c.now wd h (by rw [paired_len hx]; exact .dat (.int _))⟩
  · exact h.elim
theorem two_int {xs : List Sv} {vs : List V} {i j : Int} (e : xs = [.dat (.int i), .dat (.int j)]) (h : IsSs K I xs vs) : vs = [.int i, .int j] := by
  subst e
  cases h with
  | cons a b =>
    cases b with
    | cons b c =>
      cases c
      cases a with
      | dat a =>
        cases b with
        | dat b =>
          cases a
          cases b
          rfl
theorem lc_max2 : LRC (K := K) (fun xs H Q => ∃ i j, xs = [.int i, .int j] ∧ Q (.int (if j > i then j else i)) H) gMax2 := by
  intro xs st I H ok Q vs wd ix h c
  unfold gMax2 at h
  split at h
  · exact ⟨_, _, two_int rfl ix, c.now wd h (.dat (.int _))⟩
  · exact h.elim
theorem lc_min2 : LRC (K := K) (fun xs H Q => ∃ i j, xs = [.int i, .int j] ∧ Q (.int (if j < i then j else i)) H) gMin2 := by
  intro xs st I H ok Q vs wd ix h c
  unfold gMin2 at h
  split at h
  · exact ⟨_, _, two_int rfl ix, c.now wd h (.dat (.int _))⟩
  · exact h.elim
theorem lc_listL : LRC (K := K) (fun xs H Q => ∃ p ys, xs = [.ref p] ∧ (SqL K H p ys ∨ SqT K H p ys) ∧ ∀ l, H l = none → Q (.ref l) (upd H l (.lst ys))) gListL := by
  intro xs st I H ok Q vs wd ix h c
  unfold gListL at h
  split at h
  · obtain ⟨v, rfl, i⟩ := one_of rfl ix
    obtain ⟨a, us, ys, rfl, hs, hx, h⟩ := withL_rd wd i h
    refine ⟨a, us, rfl, .inl hs, fun l hl => ?_⟩
    obtain ⟨ds, e, h⟩ := h
    obtain ⟨w2, s2⟩ := new_known (o := .lst us) wd hl
    exact c _ _ _ _ _ h w2 s2 (.dat (.lst upd_same (IsDs.mono (Ex.new (wd.sub.none hl)) (isDs_of e hx))))
  · exact h.elim
theorem lc_listLO : LRC (K := K) (fun xs H Q => ∃ p ys, xs = [.ref p] ∧ (SqL K H p ys ∨ SqT K H p ys) ∧ ∀ l, H l = none → Q (.ref l) (upd H l (.lst ys))) gListLO := by
  intro xs st I H ok Q vs wd ix h c
  unfold gListLO at h
  split at h
  · obtain ⟨v, rfl, i⟩ := one_of rfl ix
    obtain ⟨a, us, ys, rfl, hs, hx, h⟩ := withL_rd wd i h
    refine ⟨a, us, rfl, .inl hs, fun l hl => ?_⟩
    obtain ⟨np, w2, s2⟩ := new_own (o := .lst us) (ob := .lst ys) wd hl (.lst hx)
    exact c _ _ _ _ _ (h l np) w2 s2 (.own l)
  · exact h.elim
/-- an object of one's own is written -/
theorem keys_set {st : Store} {j : Nat} {p : Addr} {ob ob' : Ob} (h : st[j]? = some (p, ob)) : keys (st.set j (p, ob')) = keys st := by
  have hj := (List.getElem?_eq_some_iff.mp h).1
  apply List.ext_getElem?
  intro i
  rw [List.getElem?_map, List.getElem?_map]
  by_cases e : j = i
  · subst e
    rw [List.getElem?_set_self hj, h]
    rfl
  · rw [List.getElem?_set_ne e]
theorem set_own {p : Addr} {j : Nat} {ob ob' : Ob} {o' : HO} (w : Wd K st I H) (h : st[j]? = some (p, ob)) (ho : ObIs K I ob' o') :
    Wd K (st.set j (p, ob')) I (upd H p o') ∧ Stp st I H (st.set j (p, ob')) I (upd H p o') := by
  obtain ⟨ip, o, hp, _⟩ := w.own p ob (List.mem_of_getElem? h)
  have pk : p ∈ keys st := List.mem_map.mpr ⟨(p, ob), List.mem_of_getElem? h, rfl⟩
  have nd := w.nd
  refine ⟨⟨fun a u e => ?_, fun q ob2 hq => ?_, by rw [keys_set h]; exact w.nd⟩, ⟨Ex.refl _, fun a u ha e => ?_, fun a e => .inl e, fun q hq => .inl (by rw [keys_set h] at hq; exact hq)⟩⟩
  · have ne : a ≠ p := ne_of_none e ip
    rw [upd_ne ne]
    exact w.sub a u e
  · obtain ⟨i, hi⟩ := List.mem_iff_getElem?.mp hq
    have hj := (List.getElem?_eq_some_iff.mp h).1
    by_cases e : j = i
    · subst e
      rw [List.getElem?_set_self hj] at hi
      cases hi
      exact ⟨ip, o', upd_same, ho⟩
    · rw [List.getElem?_set_ne e] at hi
      have qm := List.mem_of_getElem? hi
      obtain ⟨h1, u, h2, h3⟩ := w.own q ob2 qm
      have ne : q ≠ p := fun z => by
        subst z
        have k1 : (keys st)[i]? = some q := by rw [List.getElem?_map, hi]; rfl
        have k2 : (keys st)[j]? = some q := by rw [List.getElem?_map, h]; rfl
        exact e ((List.getElem?_inj (List.getElem?_eq_some_iff.mp k2).1 nd).mp (k2.trans k1.symm))
      exact ⟨h1, u, by rw [upd_ne ne]; exact h2, h3⟩
  · rw [upd_ne (fun z => ha (by rw [z]; exact pk))]
    exact e
theorem lowS_setL {tv to ti : DE} : ∀ D σ H, lowS K (dSetL tv to ti) W D σ H → tAsg (low K tv W) (gSub (low K to W) (low K ti W) rSetL) D σ H := by
  rintro D σ H ⟨Δ, st, I, N, wd, sl, h, e⟩
  refine low_go wd sl h (fun v st1 vv I1 H1 h1 w1 s1 i1 => ?_) (cx_of sl e)
  refine low_go w1 (sl.mono s1.ii) h1 (fun o st2 ov I2 H2 h2 w2 s2 i2 => ?_) (cx_of (sl.mono s1.ii) (e.go s1))
  have s12 := s1.trans s2
  refine low_go w2 (sl.mono s12.ii) h2 (fun y st3 yv I3 H3 h3 w3 s3 i3 => ?_) (cx_of (sl.mono s12.ii) (e.go s12))
  have s13 := s12.trans s3
  cases i2 with
  | dat hd => exact h3.elim
  | own p =>
    obtain ⟨n, rfl, j, xs, m, hj, hm, hn⟩ := withI_rd i3 h3
    obtain ⟨u, hu, io⟩ := own_at w3 hj
    cases io with
    | @lst _ us hs =>
      obtain ⟨w4, s4⟩ := set_own (o' := .lst (us.set m vv)) w3 hj (.lst (paired_set (i1.mono (s2.ii.trans s3.ii)) hs m))
      exact ⟨p, us, n, m, rfl, rfl, hu, by rw [← paired_len hs]; exact hm, e.nx _ _ _ _ _ hn w4 (s13.trans s4) (sl.mono s13.ii)⟩
theorem lowS_app {to te : DE} : ∀ D σ H, lowS K (dApp to te) W D σ H → tDrop (tBM K "list" rAppend (low K to W) (tCons (low K te W) tNil)) D σ H := by
  rintro D σ H ⟨Δ, st, I, N, wd, sl, h, e⟩
  refine low_go wd sl h (fun o st1 ov I1 H1 h1 w1 s1 i1 => ?_) (cx_of sl e)
  cases i1 with
  | dat hd => exact h1.elim
  | own p =>
    obtain ⟨⟨j, xs, hj⟩, h1⟩ := h1
    obtain ⟨u, hu, io⟩ := own_at w1 hj
    cases io with
    | @lst _ us hs =>
      refine ⟨.inl ⟨rfl, us, .inl (.inl hu)⟩, low_go w1 (sl.mono s1.ii) h1 (fun v st2 vv I2 H2 h2 w2 s2 i2 => ?_) (cx_of (sl.mono s1.ii) (e.go s1))⟩
      obtain ⟨j2, xs2, hj2, hl, hn⟩ := h2
      obtain ⟨u2, hu2, io2⟩ := own_at w2 hj2
      cases io2 with
      | @lst _ us2 hs2 =>
        obtain ⟨w3, s3⟩ := set_own (o' := .lst (us2 ++ [vv])) w2 hj2 (.lst (paired_app hs2 (.cons i2 .nil)))
        exact ⟨p, us2, vv, rfl, rfl, hu2, by rw [← paired_len hs2]; exact hl, e.nx _ _ _ _ _ hn w3 ((s1.trans s2).trans s3) (sl.mono (s1.trans s2).ii)⟩
/-- targets -/
theorem lowG_name {i : Nat} : ∀ v σ H Q, lowG K (dgName i) v σ H Q → gName i v σ H Q := by
  rintro v σ H Q ⟨s, Δ, st, I, k, wd, sl, iv, h, c⟩
  exact c _ _ _ _ _ h wd (Stp.refl _ _ _) (sl.set iv)
theorem lowGs_nil : ∀ v σ H Q, lowGs K dgNil v σ H Q → gNil v σ H Q := by
  rintro v σ H Q ⟨s, Δ, st, I, k, wd, sl, iv, h, c⟩
  cases iv with
  | nil => exact ⟨rfl, c _ _ _ _ _ h wd (Stp.refl _ _ _) sl⟩
  | cons a b => exact h.elim
theorem lowGs_cons {g : DG} {u : DGs} : ∀ v σ H Q, lowGs K (dgCons g u) v σ H Q → gCons (lowG K g) (lowGs K u) v σ H Q := by
  rintro v σ H Q ⟨s, Δ, st, I, k, wd, sl, iv, h, c⟩
  cases iv with
  | nil => exact h.elim
  | cons a b =>
    refine ⟨_, _, rfl, _, Δ, st, I, _, wd, sl, a, h, fun Δ1 st1 σ1 I1 H1 h1 w1 s1 l1 => ?_⟩
    exact ⟨_, Δ1, st1, I1, k, w1, l1, paired_mono (fun _ _ => IsS.mono s1.ii) b, h1, c.go s1⟩
theorem lowG_tup {n : Nat} {u : DGs} : ∀ v σ H Q, lowG K (dgTup n u) v σ H Q → gTup K n (lowGs K u) v σ H Q := by
  rintro v σ H Q ⟨s, Δ, st, I, k, wd, sl, iv, h, c⟩
  obtain ⟨a, vs, xs, rfl, ht, hx, hl, h⟩ := withT_rd wd iv h
  exact ⟨a, vs, rfl, ht, by rw [← paired_len hx]; exact hl, xs, Δ, st, I, k, wd, sl, hx, h, c⟩
theorem lowS_asgG {g : DG} {t : DE} : ∀ D σ H, lowS K (dAsgG g t) W D σ H → tAsg (low K t W) (lowG K g) D σ H := by
  rintro D σ H ⟨Δ, st, I, N, wd, sl, h, e⟩
  exact low_go wd sl h (fun s st1 v I1 H1 h1 w1 s1 i1 => ⟨s, Δ, st1, I1, _, w1, sl.mono s1.ii, i1, h1, e.nx.go s1⟩) (cx_of sl e)
/-- loops -/
theorem loop_turn {g : DG} {body : DS} {N : DN} {D : Ends} {J : Nat → List Sv → Store → Prop} {i : Nat} {d : Sv} {v : V} {Δ' : List Sv} {st' : Store} {σ' : St} {I' H' : Hp}
    (e : Ends_ K st I H N W D) (w : Wd K st' I' H') (l : Sl K Δ' I' σ') (s : Stp st I H st' I' H') (iv : IsS K I' d v)
    (h : g d Δ' st' fun Δ2 st2 => body Δ2 st2 { N with nx := J (i + 1), ct := J (i + 1), bk := N.nx }) :
    lowG K g v σ' H' fun σ2 H2 => lowS K body W { D with nx := fun σ3 H3 => ∃ Δ3 st3 I3, J (i + 1) Δ3 st3 ∧ Wd K st3 I3 H3 ∧ Sl K Δ3 I3 σ3 ∧ Stp st I H st3 I3 H3, ct := fun σ3 H3 => ∃ Δ3 st3 I3, J (i + 1) Δ3 st3 ∧ Wd K st3 I3 H3 ∧ Sl K Δ3 I3 σ3 ∧ Stp st I H st3 I3 H3, bk := D.nx } σ2 H2 := by
  refine ⟨d, Δ', st', I', _, w, l, iv, h, fun Δ2 st2 σ2 I2 H2 h2 w2 s2 l2 => ?_⟩
  have ss := s.trans s2
  refine lowS_go w2 l2 h2 ⟨fun Δ3 st3 σ3 I3 H3 h3 w3 s3 l3 => ⟨Δ3, st3, I3, h3, w3, l3, ss.trans s3⟩, (e.go ss).rt, (e.go ss).nx, fun Δ3 st3 σ3 I3 H3 h3 w3 s3 l3 => ⟨Δ3, st3, I3, h3, w3, l3, ss.trans s3⟩, (e.go ss).ex⟩
end
end DD
namespace DD
open PySem PySem.Spec PyProof.Rows L2
section
variable {X : Cx} {W : WX} {a b c e : Expr} {es : List Expr} {ta tb tc te : DE} {pos p : Pos}
abbrev PEd (X : Cx) (W : WX) (e : Expr) (t : DE) : Prop := PE X e (low X.K t W)
abbrev PTd (X : Cx) (W : WX) (e : Expr) (t : DT) : Prop := PT X e (lowT X.K t W)
abbrev PAd (X : Cx) (W : WX) (es : List Expr) (t : DA) : Prop := PA X es (lowA X.K t W)
abbrev PSd (X : Cx) (W : WX) (s : Stmt) (t : DS) : Prop := PS X s (lowS X.K t W)
abbrev PBd (X : Cx) (W : WX) (s : List Stmt) (t : DS) : Prop := PSs X s (lowS X.K t W)
abbrev PGd (X : Cx) (e : Expr) (g : DG) : Prop := PG X e (lowG X.K g)
abbrev PGsd (X : Cx) (es : List Expr) (g : DGs) : Prop := PGs X es (lowGs X.K g)
theorem dv (i : Nat) {x : Str} (hN : X.N[i]? = some x := by rfl) (hv : Vis X.env.scope x := by first | exact Or.inl rfl | exact Or.inr (Or.inl rfl) | exact Or.inr (Or.inr rfl)) (hd : (x == ("__debug__" : Str)) = false := by decide)
    (hcd : (x == ("__classdict__" : Str)) = false := by decide) : PEd X W (.Name x pos) (dVar i) := PE.imp (pe_var hN hv hd hcd) low_var
theorem di {i j} : PEd X W (.Constant (.int i) j pos) (dC (.int i)) := PE.imp pe_int (low_c fun _ => .int i)
theorem ds {i j} : PEd X W (.Constant (.str i) j pos) (dC (.str i)) := PE.imp pe_str (low_c fun _ => .str i)
theorem db {i j} : PEd X W (.Constant (.bool i) j pos) (dC (.bl i)) := PE.imp pe_bl (low_c fun _ => .bl i)
theorem dn {j} : PEd X W (.Constant .none j pos) (dC .non) := PE.imp pe_non (low_c fun _ => .non)
/-- an int that the module holds -/
theorem dgl {x : Str} {i : Int} {u : Value} (hm : X.mg x = some u) (r : RelV (.int i) u) (hg : Gl X x := by rfl) (hd : (x == ("__debug__" : Str)) = false := by decide) : PEd X W (.Name x pos) (dC (.int i)) := PE.imp (pe_glob hg hm r hd) (low_c fun _ => .int i)
theorem dop {op : Operator} {r : R2} {g : G2} (ho : OpR X (binaryOp op) r) (hr : LR2 X.K r g) (ha : PEd X W a ta) (hb : PEd X W b tb) : PEd X W (.BinOp a op b pos) (dOp g ta tb) := PE.imp (pe_op ho ha hb) (low_op hr)
theorem dcmp {op : CmpOp} {r : R2} {g : G2} (ho : OpR X (compareOp op) r) (hr : LR2 X.K r g) (ha : PEd X W a ta) (hb : PEd X W b tb) (hm : behindInMarks op b = false) : PEd X W (.Compare a [op] [b] pos) (dOp g ta tb) := PE.imp (pe_cmpR ho ha hb hm) (low_op hr)
theorem tcmp {op : CmpOp} {r : R2} {g : G2} (ho : OpR X (compareOp op) r) (hr : LR2 X.K r g) (ha : PEd X W a ta) (hb : PEd X W b tb) (hm : behindInMarks op b = false) : PTd X W (.Compare a [op] [b] pos) (dTest (dOp g ta tb)) :=
  PT.imp (pt_cmpR ho ha hb hm) fun σ H Q h => by
    obtain ⟨Δ, st, I, ok, ex, wd, sl, h, c, cx⟩ := h
    refine low_op hr _ _ _ ⟨Δ, st, I, _, ex, wd, sl, h, fun s st' v I' H' h' w' s' i' => ?_, cx⟩
    cases i' with
    | own p => exact h'.elim
    | dat hd =>
      cases hd with
      | bl k => exact ⟨k, rfl, c _ _ _ _ h' w' s'⟩
      | _ => exact h'.elim
theorem dchain {op op' : CmpOp} {r r' : R2} {g g' : G2} (ho : OpR X (compareOp op) r) (ho' : OpR X (compareOp op') r') (hr : LR2 X.K r g) (hr' : LR2 X.K r' g') (ha : PEd X W a ta) (hb : PEd X W b tb) (hc : PEd X W c tc)
    (hm : lastMarks [op, op'] [b, c] = false := by with_unfolding_all rfl) : PEd X W (.Compare a [op, op'] [b, c] pos) (dChain g g' ta tb tc) := PE.imp (pe_chain ho ho' ha hb hc hm) (low_chain hr hr')
abbrev gAdd : G2 := gI0 fun i j => .int (i + j)
abbrev gSub' : G2 := gI0 fun i j => .int (i - j)
abbrev gMul : G2 := gI CMul fun i j => .int (i * j)
abbrev gDiv : G2 := gI CDiv fun i j => .int (i / j)
abbrev gMod : G2 := gI (fun _ j => 0 < j) fun i j => .int (i % j)
abbrev gLt : G2 := gI0 fun i j => .bl (decide (i < j))
abbrev gLe : G2 := gI0 fun i j => .bl (decide (i ≤ j))
abbrev gGt : G2 := gI0 fun i j => .bl (decide (j < i))
abbrev gGe : G2 := gI0 fun i j => .bl (decide (j ≤ i))
theorem lr_add {K} : LR2 K (rI0 fun i j => .int (i + j)) gAdd := lr_I0 fun _ _ _ _ => .int _
theorem lr_sub {K} : LR2 K (rI0 fun i j => .int (i - j)) gSub' := lr_I0 fun _ _ _ _ => .int _
theorem lr_mul {K} : LR2 K (rI CMul fun i j => .int (i * j)) gMul := lr_I fun _ _ _ _ => .int _
theorem lr_div {K} : LR2 K (rI CDiv fun i j => .int (i / j)) gDiv := lr_I fun _ _ _ _ => .int _
theorem lr_mod {K} : LR2 K (rI (fun _ j => 0 < j) fun i j => .int (i % j)) gMod := lr_I fun _ _ _ _ => .int _
theorem lr_lt {K} : LR2 K (rI0 fun i j => .bl (decide (i < j))) gLt := lr_I0 fun _ _ _ _ => .bl _
theorem lr_le {K} : LR2 K (rI0 fun i j => .bl (decide (i ≤ j))) gLe := lr_I0 fun _ _ _ _ => .bl _
theorem lr_gt {K} : LR2 K (rI0 fun i j => .bl (decide (j < i))) gGt := lr_I0 fun _ _ _ _ => .bl _
theorem lr_ge {K} : LR2 K (rI0 fun i j => .bl (decide (j ≤ i))) gGe := lr_I0 fun _ _ _ _ => .bl _
theorem dix {r : R2} {g : G2} (hr : IxR X r) (hg : LR2 X.K r g) (ha : PEd X W a ta) (hb : PEd X W b tb) (hs : PlainIx b := by exact fun _ _ => rfl) : PEd X W (.Subscript a b pos) (dOp g ta tb) := PE.imp (pe_ix hr ha hb hs) (low_op hg)
theorem dcb {id : String} {x : Str} {r : List V → Hp → VK → Prop} {g : GC} {t : DA} (hc : CallR X (.builtin id) r) (hr : LRC (K := X.K) r g) (hm : X.mg x = none) (hv : bootBuiltins x = some (.builtin id)) (ha : PAd X W (e :: es) t) (hg : Gl X x := by rfl) (hn : x ≠ "__name__" := by decide) (hdb : (x == ("__debug__" : Str)) = false := by decide)
    (he : starEach (e :: es) X.env = (false, eval e X.env) :: starEach es X.env := by rfl) (hpl : (backTo pos (starEach es X.env)).any (·.1) = false := by rfl) : PEd X W (.Call (.Name x p) (e :: es) [] pos) (dCB g t) := PE.imp (pe_callB hc hg hm hv ha hn hdb he hpl) (low_cb hr)
theorem dct {T : String} {x : Str} {r : List V → Hp → VK → Prop} {g : GC} {t : DA} (hc : CallR X (.type T) r) (hr : LRC (K := X.K) r g) (hm : X.mg x = none) (hv : bootBuiltins x = some (.type T)) (ha : PAd X W (e :: es) t) (hg : Gl X x := by rfl) (hn : x ≠ "__name__" := by decide) (hdb : (x == ("__debug__" : Str)) = false := by decide)
    (he : starEach (e :: es) X.env = (false, eval e X.env) :: starEach es X.env := by rfl) (hpl : (backTo pos (starEach es X.env)).any (·.1) = false := by rfl) : PEd X W (.Call (.Name x p) (e :: es) [] pos) (dCB g t) := PE.imp (pe_callTy hc hg hm hv ha hn hdb he hpl) (low_cb hr)
theorem anil : PAd X W [] dNil := PA.imp pa_nil lowA_nil
theorem acons {t : DA} (he : PEd X W e te) (ha : PAd X W es t) (hs : starEach (e :: es) X.env = (false, eval e X.env) :: starEach es X.env := by rfl) : PAd X W (e :: es) (dCons te t) := PA.imp (pa_cons he ha hs) lowA_cons
/-- the size of a display -/
def szd (t : DA) : DA := fun Δ st ok ex => t Δ st (fun xs st1 => xs.length ≤ sizeLine ∧ ok xs st1) ex
theorem dtup {x1} {t : DA} (h : PAd X W es t) : PEd X W (.Tuple es x1 pos) (dTup (szd t)) := PE.imp (pe_tup h) low_tup
theorem dlst {t : DA} (h : PAd X W es t) : PEd X W (.List es pos) (dLst (szd t)) := PE.imp (pe_lst h) low_lst
theorem dlstO {t : DA} (h : PAd X W es t) : PEd X W (.List es pos) (dLstO (szd t)) := PE.imp (pe_lst h) low_lstO
/-- f(..) -/
theorem dcall {ct : Ct} {k : Nat} {f : Addr} {fd : FuncData} {ps : List Str} {x : Str} {dds : List Dt} {dvs : List V} {dus : List Value} {t : DA} (F : FnOk X.prog X.w X.K X.mg X.base (L2.CX X.prog X.w) k f fd ps (lowF X.K ct)) (hr : Room k X.A) (hm : X.mg x = some (.ref f)) (hk : PySem.W.keepIn X.K (.ref f) = true)
    (hb : Binds X.K fd ps dus) (hd : Vals dvs dus) (hdd : ∀ I, IsSs X.K I (dds.map Sv.dat) dvs) (tk : Takes X W) (ha : PAd X W (e :: es) t) (hg : Gl X x := by rfl) (hdb : (x == ("__debug__" : Str)) = false := by decide)
    (he : starEach (e :: es) X.env = (false, eval e X.env) :: starEach es X.env := by rfl) (hpl : (backTo pos (starEach es X.env)).any (·.1) = false := by rfl) : PEd X W (.Call (.Name x p) (e :: es) [] pos) (dCall ct dds t) :=
  PE.imp (pe_callSD F hr hg hm hk hb hd (fun σ => passAt tk σ) ha hdb he hpl) (low_call hdd)
variable {s : Stmt} {ss : List Stmt} {t u : DS}
theorem bnil : PBd X W [] dNext := PSs.imp pss_nil lowS_next
theorem bcons (h1 : PSd X W s t) (h2 : PBd X W ss u) : PBd X W (s :: ss) (dSeq t u) := PSs.imp (pss_cons h1 h2) lowS_seq
theorem bone (h1 : PSd X W s t) : PBd X W [s] t := pss_one h1
theorem sset (i : Nat) {x : Str} {pos' : Pos} (hN : X.N.Nodup) (he : PEd X W e te) (hi : X.N[i]? = some x := by rfl) (hx : Loc X.env.scope x := by first | exact Or.inl rfl | exact Or.inr rfl) (hs : swapsWith e (some (.Name x pos')) pos.line X.env = pure false := by rfl)
    (hf : X.fn x = true ∨ X.env.scope.names.lookup x = some .local := by first | exact .inl rfl | exact .inr rfl | assumption) : PSd X W (.Assign [.Name x pos'] e pos) (dAsg i te) := PS.imp (ps_set hN hi hx he hs hf) lowS_asg
theorem sret (he : PEd X W e te) : PSd X W (.Return (some e) pos) (dRet te) := PS.imp (ps_ret he) lowS_ret
theorem sif {tt : DT} (hc : PTd X W c tt) (h1 : PBd X W ss t) {ss' : List Stmt} (h2 : PBd X W ss' u) : PSd X W (.If c ss ss' pos) (dIfS tt t u) := PS.imp (ps_if hc h1 h2) lowS_if
theorem ssetL {o i : Expr} {tv to ti : DE} {p2 : Pos} (hv : PEd X W e tv) (ho : PEd X W o to) (hi : PEd X W i ti)
    (ha : ∀ v, assign (.Subscript o i p2) X.env v = (do
      let ov ← holding [v] (eval o X.env)
      let iv ← holding [v, ov] (eval i X.env)
      standAt p2
      holding [v, ov, iv] (setItem ov iv v)
      release [v, ov, iv] []) := by intro _; rfl)
    (hs : swapsWithSole [.Subscript o i p2] e pos.line X.env = pure false := by rfl) (hw : swappedStores [.Subscript o i p2] e X.env = pure none := by rfl)
    (h1 : (assignEach [.Subscript o i p2] X.env).map (·.2) = [assign (.Subscript o i p2) X.env] := by rfl) : PSd X W (.Assign [.Subscript o i p2] e pos) (dSetL tv to ti) :=
  PS.imp (ps_asg hv (pg_sub ho hi set_list ha) hs hw h1) lowS_setL
theorem gname (i : Nat) {x : Str} (hN : X.N.Nodup) (hi : X.N[i]? = some x := by rfl) (hx : Loc X.env.scope x := by first | exact Or.inl rfl | exact Or.inr rfl) (hf : X.fn x = true ∨ X.env.scope.names.lookup x = some .local := by first | exact .inl rfl | exact .inr rfl | assumption) : PGd X (.Name x pos) (dgName i) :=
  ⟨fun pins s σ H v u Q I r h => (pg_name hN hi hx hf).run pins s σ H v u Q I r (lowG_name _ _ _ _ h)⟩
end
inductive AllK {κ : Type} : List (κ × Sv) → List (κ × Dt) → Prop
  | nil : AllK [] []
  | cons {k : κ} {d : Dt} {xs : List (κ × Sv)} {ds : List (κ × Dt)} : AllK xs ds → AllK ((k, .dat d) :: xs) ((k, d) :: ds)
theorem isDk_of {K : PySem.W.Frag} {I : Hp} : ∀ {xs : List (Key × Sv)} {ds : List (Key × Dt)} {vs : List (Key × V)}, AllK xs ds → Paired (RK K I) xs vs → IsDk K I ds vs
  | _, _, _, .nil, .nil => .nil
  | _, _, (_, _) :: _, .cons a, .cons ⟨e, .dat h⟩ r => by
    cases e
    exact .cons h (isDk_of a r)
theorem isDt_of {K : PySem.W.Frag} {I : Hp} : ∀ {xs : List (List Key × Sv)} {ds : List (List Key × Dt)} {vs : List (List Key × V)}, AllK xs ds → Paired (RK K I) xs vs → IsDt K I ds vs
  | _, _, _, .nil, .nil => .nil
  | _, _, (_, _) :: _, .cons a, .cons ⟨e, .dat h⟩ r => by
    cases e
    exact .cons h (isDt_of a r)
theorem AllK.map {κ α : Type} {f : α → κ} {g : α → Dt} : ∀ xs : List α, AllK (xs.map fun x => (f x, .dat (g x))) (xs.map fun x => (f x, g x))
  | [] => .nil
  | _ :: xs => .cons (AllK.map xs)
inductive ObD : Ob → Dt → Prop
  | lst {xs : List Sv} {ds : List Dt} : AllD xs ds → ObD (.lst xs) (.lst ds)
  | dic {xs : List (Key × Sv)} {ds : List (Key × Dt)} : AllK xs ds → ObD (.dic xs) (.dic ds)
  | dtt {xs : List (List Key × Sv)} {ds : List (List Key × Dt)} : AllK xs ds → ObD (.dtt xs) (.dtt ds)
inductive Fin : Sv → Store → Sv → Store → Prop
  | keep {s : Sv} {st st' : Store} : st'.Sublist st → Fin s st s st'
  | pub {p : Addr} {ob : Ob} {d : Dt} {st st' : Store} {j : Nat} : st[j]? = some (p, ob) → ObD ob d → p ∉ keys st' → st'.Sublist st → Fin (.own p) st (.dat d) st'
def endsOf (ok : OK) (ex : EK) : DN where
  nx := fun _ st' => ∃ st'', st''.Sublist st' ∧ ok (.dat .non) st''
  rt := fun s st' => ∃ s' st'', Fin s st' s' st'' ∧ ok s' st''
  bk := fun _ _ => False
  ct := fun _ _ => False
  ex := fun x _ st' => ∃ st'', st''.Sublist st' ∧ ex x st''
section
variable {K : PySem.W.Frag} {st st' : Store} {I I' H H' : Hp}
theorem keys_sub (h : st'.Sublist st) : (keys st').Sublist (keys st) := h.map _
theorem wd_drop (w : Wd K st I H) (h : st'.Sublist st) : Wd K st' I H := ⟨w.sub, fun p ob hp => w.own p ob (h.subset hp), w.nd.sublist (keys_sub h)⟩
theorem stp_drop {st0 : Store} {I0 H0 : Hp} (s : Stp st0 I0 H0 st I H) (h : st'.Sublist st) : Stp st0 I0 H0 st' I H := ⟨s.ii, s.hh, s.nw, fun p hp => s.ks p ((keys_sub h).subset hp)⟩
theorem fin_ok {st0 : Store} {I0 H0 : Hp} {s s' : Sv} {v : V} (w : Wd K st I H) (sp : Stp st0 I0 H0 st I H) (i : IsS K I s v) (f : Fin s st s' st') : ∃ I', Wd K st' I' H ∧ Stp st0 I0 H0 st' I' H ∧ IsS K I' s' v := by
  cases f with
  | keep h => exact ⟨I, wd_drop w h, stp_drop sp h, i⟩
  | @pub p ob d _ _ j hj od np h =>
    cases i
    have hm := List.mem_of_getElem? hj
    obtain ⟨ip, o, hp, io⟩ := w.own p ob hm
    have pk : p ∈ keys st := List.mem_map.mpr ⟨_, hm, rfl⟩
    refine ⟨upd I p o, ⟨fun a u e => ?_, fun q ob2 hq => ?_, w.nd.sublist (keys_sub h)⟩, ⟨sp.ii.trans (Ex.new ip), sp.hh, fun a ha => ?_, fun q hq => sp.ks q ((keys_sub h).subset hq)⟩, ?_⟩
    · by_cases e1 : a = p
      · subst e1
        rw [upd_same] at e
        cases e
        exact .inl hp
      · rw [upd_ne e1] at e
        exact w.sub a u e
    · obtain ⟨h1, u, h2, h3⟩ := w.own q ob2 (h.subset hq)
      have ne : q ≠ p := fun z => np (z ▸ List.mem_map.mpr ⟨(q, ob2), hq, rfl⟩)
      exact ⟨by rw [upd_ne ne]; exact h1, u, h2, h3.mono (Ex.new ip)⟩
    · by_cases e1 : a = p
      · subst e1
        rcases sp.ks a pk with q | q
        · exact .inr (.inr (.inl q))
        · exact .inr (.inl q)
      · rw [upd_ne e1] at ha
        exact sp.nw a ha
    · cases od with
      | lst ad =>
        cases io with
        | lst hs => exact .dat (.lst upd_same ((isDs_of ad hs).mono (Ex.new ip)))
      | dic ad =>
        cases io with
        | dic hs => exact .dat (.dic (.inl upd_same) ((isDk_of ad hs).mono (Ex.new ip)))
      | dtt ad =>
        cases io with
        | dtt hs => exact .dat (.dtt (.inl upd_same) ((isDt_of ad hs).mono (Ex.new ip)))
end
theorem sl_start {K : PySem.W.Frag} {I : Hp} {N : List Str} {ss : List Sv} {vs : List V} (h : IsSs K I ss vs) : Sl K (ss ++ List.replicate (N.length - ss.length) .un) I (L2.start N vs) := by
  have e := paired_len h
  unfold L2.start
  rw [← e]
  refine ⟨by simp [e], fun i s hs => ?_⟩
  by_cases hi : i < ss.length
  · rw [List.getElem?_append_left hi] at hs
    obtain ⟨v, hv, iv⟩ := paired_at h hs
    refine .inr ⟨v, ?_, iv⟩
    rw [List.getElem?_append_left (by rw [List.length_map, ← e]; exact hi), List.getElem?_map, hv]
    rfl
  · rw [List.getElem?_append_right (by omega)] at hs
    have := List.mem_of_getElem? hs
    exact .inl (List.mem_replicate.mp this).2
section
variable {P : Program} {w : World} {K : PySem.W.Frag} {mg : Str → Option Value} {base : Heap}
/-- what is wanted of an exception within a def -/
abbrev WF (E : XK) : WX := fun cls d _ H => E cls d H
abbrev cxD (P : Program) (w : World) (K : PySem.W.Frag) (mg : Str → Option Value) (base : Heap) (N : List Str) (qual : Str) (scope : Scope) (f : Addr) (cdv : Value) (A : Around) (outer : List Env) (s : Shared) (H : Hp) (E : XK) : Cx := cxOf (L2.CX P w) P w K mg base N qual scope f cdv A outer s H E
theorem fn_low {x qual : Str} {st : Stmt} {f : Addr} {fd : FuncData} {N ps : List Str} {k : Nat} {ct : Ct} (t : DS) (F : Fun K x qual st f fd) (S : FnScope N ps (defScope st)) (len : ∀ ss st ok ex, ct ss st ok ex → ss.length = ps.length)
    (hsem : ∀ ss st ok ex, ct ss st ok ex → t (ss ++ List.replicate (N.length - ss.length) .un) st (endsOf ok ex))
    (hbody : ∀ (cdv : Value) (A : Around) (outer : List Env) (s : Shared) (H : Hp) (E : XK), Room k (A.deeper (envOfC qual (defScope st) s.heap.objs.size f cdv)) → Takes (cxD P w K mg base N qual (defScope st) f cdv A outer s H E) (WF E) →
      PassesOwn (model P w) (cxD P w K mg base N qual (defScope st) f cdv A outer s H E).A (cxD P w K mg base N qual (defScope st) f cdv A outer s H E).env (cxD P w K mg base N qual (defScope st) f cdv A outer s H E).xe →
      PBd (cxD P w K mg base N qual (defScope st) f cdv A outer s H E) (WF E) (defBody st) t) :
    FnOk P w K mg base (L2.CX P w) (k + 1) f fd ps (lowF K ct) := by
  refine F.okX S (fun vs H Q E h => ?_) (fun cdv A outer s H vs Q E hr h => ?_)
  · obtain ⟨ss, st, I, ok, ex, wd, iv, h, _⟩ := h
    rw [← paired_len iv]
    exact len _ _ _ _ h
  · obtain ⟨ss, st0, I, ok, ex, wd, iv, h, c, cx⟩ := h
    refine ⟨_, hbody cdv A outer s H E hr (takes_of rfl rfl rfl rfl) (passes_of rfl), ?_⟩
    refine lowS_go wd (sl_start iv) (hsem _ _ _ _ h) ⟨?_, ?_, ?_, ?_, ?_⟩
    · rintro Δ st' σ' I' H' ⟨st'', hs, h'⟩ w' s' l'
      exact c _ _ _ _ _ h' (wd_drop w' hs) (stp_drop s' hs) (.dat .non)
    · rintro s st' v I' H' ⟨s', st'', hf, h'⟩ w' sp i'
      obtain ⟨I2, w2, s2, i2⟩ := fin_ok w' sp i' hf
      exact c _ _ _ _ _ h' w2 s2 i2
    · intro _ _ _ _ _ h'
      exact h'.elim
    · intro _ _ _ _ _ h'
      exact h'.elim
    · rintro x Δ' st' cls d σ' I' H' ⟨st'', hs, h'⟩ w' sp l' xi
      exact cx x st'' cls d I' H' h' (wd_drop w' hs) (stp_drop sp hs) xi
end
end DD
namespace DD
open PySem PySem.Spec PyProof.Rows L2
inductive Kd where
  | non | bl | int | str | lst | tup | dic
def Kd.nm : Kd → String
  | .non => "NoneType" | .bl => "bool" | .int => "int" | .str => "str" | .lst => "list" | .tup => "tuple" | .dic => "dict"
/-- a value of the first kind is one of the second -/
def Kd.isK : Kd → Kd → Bool
  | .non, .non => true | .bl, .bl => true | .int, .int => true | .str, .str => true | .lst, .lst => true | .tup, .tup => true | .dic, .dic => true
  | .bl, .int => true
  | _, _ => false
theorem kd_ok : ∀ a b : Kd, kitB a.nm b.nm = some (a.isK b) := by
  intro a b
  cases a <;> cases b <;> decide +kernel
def kdD : Dt → Option Kd
  | .non => some .non | .bl _ => some .bl | .int _ => some .int | .str _ => some .str | .lst _ => some .lst | .fls _ => some .lst | .tup _ => some .tup | .ktu _ => none | .dic _ => some .dic | _ => none
/-- what isinstance asks of a class of one's own -/
structure InsC (K : PySem.W.Frag) (C : Addr) : Prop where
  cl : Cls K C
  ha : PySem.W.findIn K (.ref C) "__class__" = some (some (.builtin "object.__class__"))
  hn : PySem.W.specialIn K (.builtin "object.__class__") "__get__" = some (some (.builtin "getset_descriptor.__get__"))
  ht : PySem.W.takesIn K (.builtin "object.__class__") = some true
  hm : PySem.W.mroIn K C (.type "object") = some true
/-- isinstance(x, a built-in class) -/
def dIsi (K : PySem.W.Frag) (k : Kd) (te : DE) : DE := fun Δ st ok ex => te Δ st (fun s st1 => match s with
  | .dat (.ins C _) => InsC K C ∧ PySem.W.kitOne K (.ref C) (.type k.nm) = some false ∧ ok (.dat (.bl false)) st1
  | .dat d => match kdD d with
    | some j => ok (.dat (.bl (j.isK k))) st1
    | none => False
  | _ => False) ex
section
variable {K : PySem.W.Frag} {W : WX} {st : Store} {I H : Hp}
theorem ty_of {d : Dt} {v : V} {k : Kd} (w : Wd K st I H) (h : IsD K I d v) (e : kdD d = some k) : TyX K H v (.type k.nm) := by
  cases h <;> try cases e
  · exact .base .non
  · exact .base (.bl _)
  · exact .base (.int _)
  · exact .base (.str _)
  · rename_i h1 h2
    rcases w.sub.st h1.st with (h | ⟨o, h⟩) | ⟨o, its, n, h, c, _⟩
    · exact .base (.tup h)
    · exact .fTuple h
    · exact .kTuple h c
  · exact .base (.lst (w.sub.at ‹_› (by intro k z; cases z) (by intro k z; cases z)))
  · rename_i h1 h2
    rcases w.sub.sl h1 with (h | ⟨o, h⟩) | ⟨o, its, n, h, c, _⟩
    · exact .base (.lst h)
    · exact .base (.frz h)
    · exact .kList h c
  · rename_i h1 h2
    rcases w.sub.rd h1 with h | ⟨o, h⟩
    · exact .base (.dK h)
    · exact .fDict h
theorem ty_ins {C : Addr} {fs : List (Str × Dt)} {v : V} (w : Wd K st I H) (h : IsD K I (.ins C fs) v) (c : InsC K C) : TyX K H v (.ref C) := by
  cases h with
  | ins h1 h2 => exact .base (.ins (w.sub.at h1 (by intro k z; cases z) (by intro k z; cases z)) c.cl c.ha c.hn c.ht c.hm)
theorem low_isi {k : Kd} {te : DE} : ∀ σ H Q, low K (dIsi K k te) W σ H Q → tCB (rIsi K) (tCons (low K te W) (tCons (tC (.ty k.nm)) tNil)) σ H Q := by
  rintro σ H Q ⟨Δ, st, I, ok, ex, wd, sl, h, c, cx⟩
  refine low_go wd sl h (fun x st1 v I1 H1 h1 w1 s1 i1 => ?_) cx
  cases i1 with
  | own p => exact h1.elim
  | @dat d _ hd =>
    by_cases hi : ∃ C fs, d = .ins C fs
    · obtain ⟨C, fs, rfl⟩ := hi
      obtain ⟨c1, c2, h1⟩ := h1
      exact ⟨v, .ty k.nm, _, _, false, rfl, .ty _, ty_ins w1 hd c1, c2, (c.go s1).now w1 h1 (.dat (.bl _))⟩
    · cases e : kdD d with
      | none =>
        cases d with
        | ins C fs => exact absurd ⟨_, _, rfl⟩ hi
        | raw v => exact (h1 : False).elim
        | ktu xs => exact (h1 : False).elim
        | dtt xs => exact (h1 : False).elim
        | exc a dd C fs => exact (h1 : False).elim
        | lam cl k => exact (h1 : False).elim
        | _ => cases e
      | some j =>
        have h2 : ok (.dat (.bl (j.isK k))) st1 := by
          cases d <;> first | exact absurd ⟨_, _, rfl⟩ hi | (cases e <;> exact h1)
        exact ⟨v, .ty k.nm, _, _, _, rfl, .ty _, ty_of w1 hd e, kit_ty (kd_ok j k), (c.go s1).now w1 h2 (.dat (.bl _))⟩
end
/-- what == tells of two scalars -/
def eqSc : Dt → Dt → Option Bool
  | .non, .non => some true
  | .non, .int _ => some false | .int _, .non => some false | .non, .bl _ => some false | .bl _, .non => some false | .non, .str _ => some false | .str _, .non => some false
  | .int i, .int j => some (decide (i = j)) | .bl i, .bl j => some (decide (i = j)) | .str i, .str j => some (decide (i = j))
  | .int _, .str _ => some false | .str _, .int _ => some false | .bl _, .str _ => some false | .str _, .bl _ => some false
  | _, _ => none
def gEqS : G2 := fun x y st ok => match x, y with
  | .dat d, .dat e => match eqSc d e with
    | some b => ok (.dat (.bl b)) st
    | none => False
  | _, _ => False
def gNeS : G2 := fun x y st ok => match x, y with
  | .dat d, .dat e => match eqSc d e with
    | some b => ok (.dat (.bl (!b))) st
    | none => False
  | _, _ => False
theorem eqSc_ok {K : PySem.W.Frag} {I : Hp} {d e : Dt} {v u : V} {b : Bool} (hv : IsD K I d v) (hu : IsD K I e u) (h : eqSc d e = some b) : scal v u = true ∧ b = decide (v = u) := by
  cases hv <;> cases hu <;> first | (cases h; done) | (cases h; exact ⟨rfl, by simp⟩)
theorem lr_eqS {K : PySem.W.Frag} : LR2 K rEq gEqS := by
  intro x y st I H ok Q v w wd ix iy h c
  cases ix with
  | own p => exact h.elim
  | @dat d _ hx =>
    cases iy with
    | own p => exact h.elim
    | @dat e _ hy =>
      cases q : eqSc d e with
      | none =>
        have h' : (match eqSc d e with | some b => ok (.dat (.bl b)) st | none => False) := h
        rw [q] at h'
        exact h'.elim
      | some b =>
        have h' : (match eqSc d e with | some b => ok (.dat (.bl b)) st | none => False) := h
        rw [q] at h'
        obtain ⟨h1, h2⟩ := eqSc_ok hx hy q
        exact ⟨h1, by rw [← h2]; exact c.now wd h' (.dat (.bl _))⟩
theorem lr_neS {K : PySem.W.Frag} : LR2 K rNe gNeS := by
  intro x y st I H ok Q v w wd ix iy h c
  cases ix with
  | own p => exact h.elim
  | @dat d _ hx =>
    cases iy with
    | own p => exact h.elim
    | @dat e _ hy =>
      cases q : eqSc d e with
      | none =>
        have h' : (match eqSc d e with | some b => ok (.dat (.bl (!b))) st | none => False) := h
        rw [q] at h'
        exact h'.elim
      | some b =>
        have h' : (match eqSc d e with | some b => ok (.dat (.bl (!b))) st | none => False) := h
        rw [q] at h'
        obtain ⟨h1, h2⟩ := eqSc_ok hx hy q
        exact ⟨h1, by rw [← h2]; exact c.now wd h' (.dat (.bl _))⟩
/-- is None, is not None -/
def dIsN (te : DE) : DE := fun Δ st ok ex => te Δ st (fun s st1 => match s with
  | .dat .non => ok (.dat (.bl true)) st1
  | .dat (.raw _) => False
  | .dat _ => ok (.dat (.bl false)) st1
  | _ => False) ex
def dNotN (te : DE) : DE := fun Δ st ok ex => te Δ st (fun s st1 => match s with
  | .dat .non => ok (.dat (.bl false)) st1
  | .dat (.raw _) => False
  | .dat _ => ok (.dat (.bl true)) st1
  | _ => False) ex
theorem low_isN {K : PySem.W.Frag} {W : WX} {te : DE} : ∀ σ H Q, low K (dIsN te) W σ H Q → tIsN (low K te W) σ H Q := by
  rintro σ H Q ⟨Δ, st, I, ok, ex, wd, sl, h, c, cx⟩
  refine low_go wd sl h (fun x st1 v I1 H1 h1 w1 s1 i1 => ?_) cx
  cases i1 with
  | own p => exact h1.elim
  | dat hd => cases hd <;> first | exact h1.elim | exact (c.go s1).now w1 h1 (.dat (.bl _))
theorem low_notN {K : PySem.W.Frag} {W : WX} {te : DE} : ∀ σ H Q, low K (dNotN te) W σ H Q → tNotN (low K te W) σ H Q := by
  rintro σ H Q ⟨Δ, st, I, ok, ex, wd, sl, h, c, cx⟩
  refine low_go wd sl h (fun x st1 v I1 H1 h1 w1 s1 i1 => ?_) cx
  cases i1 with
  | own p => exact h1.elim
  | dat hd => cases hd <;> first | exact h1.elim | exact (c.go s1).now w1 h1 (.dat (.bl _))
/-- order of texts, their length, all(bools) -/
def gLeStr : G2 := fun x y st ok => match x, y with
  | .dat (.str a), .dat (.str b) => ok (.dat (.bl (!decide (b.cps.toList < a.cps.toList)))) st
  | _, _ => False
theorem lr_leStr {K : PySem.W.Frag} : LR2 K (fun x y H Q => ∃ i j, x = .str i ∧ y = .str j ∧ Q (.bl (!decide (j.cps.toList < i.cps.toList))) H) gLeStr := by
  intro x y st I H ok Q v w wd ix iy h c
  cases ix with
  | own p => exact h.elim
  | dat hx =>
    cases hx with
    | str a =>
      cases iy with
      | own p => exact h.elim
      | dat hy =>
        cases hy with
        | str b => exact ⟨a, b, rfl, rfl, c.now wd h (.dat (.bl _))⟩
        | _ => exact h.elim
    | _ => cases iy <;> exact h.elim
def gLenS : GC := fun xs st ok => match xs with
  | [.dat (.str z)] => z.length ≤ sizeLine ∧ ok (.dat (.int z.length)) st
  | _ => False
theorem lc_lenS {K : PySem.W.Frag} : LRC (K := K) (fun xs H Q => ∃ z, xs = [.str z] ∧ z.length ≤ sizeLine ∧ Q (.int z.length) H) gLenS := by
  intro xs st I H ok Q vs wd ix h c
  unfold gLenS at h
  split at h
  · obtain ⟨v, rfl, i⟩ := one_of rfl ix
    cases i with
    | dat hd =>
      cases hd
      exact ⟨_, rfl, h.1, c.now wd h.2 (.dat (.int _))⟩
  · exact h.elim
def gAll : GC := fun xs st ok => match xs with
  | [.dat (.lst ds)] => ∃ bs : List Bool, ds = bs.map Dt.bl ∧ ok (.dat (.bl (bs.all id))) st
  | _ => False
theorem bls_of {K : PySem.W.Frag} {I : Hp} : ∀ {bs : List Bool} {vs : List V}, IsDs K I (bs.map Dt.bl) vs → vs = bs.map V.bl
  | [], _, h => by cases h; rfl
  | b :: bs, _, h => by
    cases h with
    | cons a r =>
      cases a
      rw [bls_of r]
      rfl
theorem lc_all {K : PySem.W.Frag} : LRC (K := K) (rAll K) gAll := by
  intro xs st I H ok Q vs wd ix h c
  unfold gAll at h
  split at h
  · obtain ⟨v, rfl, i⟩ := one_of rfl ix
    obtain ⟨bs, rfl, h⟩ := h
    cases i with
    | dat hd =>
      cases hd with
      | lst h1 h2 =>
        have e := bls_of h2
        subst e
        exact ⟨_, bs, rfl, wd.sub.sl (.inl (.inl h1)), c.now wd h (.dat (.bl _))⟩
  · exact h.elim
def gTupT : GC := fun xs st ok => match xs with
  | [.dat (.tup ds)] => ok (.dat (.tup ds)) st
  | [.dat (.ktu ds)] => ok (.dat (.ktu ds)) st
  | [.dat (.lst ds)] => ok (.dat (.tup ds)) st
  | [.own p] => ∃ (j : Nat) (ys : List Sv) (ds : List Dt), st[j]? = some (p, Ob.lst ys) ∧ AllD ys ds ∧ ok (.dat (.tup ds)) st
  | _ => False
theorem lc_tup {K : PySem.W.Frag} : LRC (K := K) (fun xs H Q => ∃ p ys, xs = [.ref p] ∧ ((SqL K H p ys ∧ ∀ l, H l = none → Q (.ref l) (upd H l (.tup ys))) ∨ (SqT K H p ys ∧ Q (.ref p) H))) gTupT := by
  intro xs st I H ok Q vs wd ix h c
  unfold gTupT at h
  split at h
  · obtain ⟨v, rfl, i⟩ := one_of rfl ix
    cases i with
    | dat hd =>
      cases hd with
      | tup h1 h2 => exact ⟨_, _, rfl, .inr ⟨wd.sub.st h1.st, c.now wd h (.dat (.tup h1 h2))⟩⟩
  · obtain ⟨v, rfl, i⟩ := one_of rfl ix
    cases i with
    | dat hd =>
      cases hd with
      | ktu h1 h2 => exact ⟨_, _, rfl, .inr ⟨wd.sub.st h1, c.now wd h (.dat (.ktu h1 h2))⟩⟩
  · obtain ⟨v, rfl, i⟩ := one_of rfl ix
    cases i with
    | dat hd =>
      cases hd with
      | lst h1 h2 =>
        refine ⟨_, _, rfl, .inl ⟨wd.sub.sl (.inl (.inl h1)), fun l hl => ?_⟩⟩
        obtain ⟨w2, s2⟩ := new_known (o := .tup _) wd hl
        exact c _ _ _ _ _ h w2 s2 (.dat (.tup (.inl upd_same) (IsDs.mono (Ex.new (wd.sub.none hl)) h2)))
  · obtain ⟨v, rfl, i⟩ := one_of rfl ix
    obtain ⟨j, ys, ds, hj, ha, h⟩ := h
    cases i with
    | own p =>
      obtain ⟨o, ho, io⟩ := own_at wd hj
      cases io with
      | lst hs =>
        refine ⟨_, _, rfl, .inl ⟨.inl (.inl ho), fun l hl => ?_⟩⟩
        obtain ⟨w2, s2⟩ := new_known (o := .tup _) wd hl
        exact c _ _ _ _ _ h w2 s2 (.dat (.tup (.inl upd_same) (IsDs.mono (Ex.new (wd.sub.none hl)) (isDs_of ha hs))))
  · exact h.elim
end DD
namespace DD
open PySem PySem.Spec PyProof.Rows L2
theorem isDf_look {K : PySem.W.Frag} {I : Hp} {f : Str} : ∀ {ds : List (Str × Dt)} {vs : List (Str × V)}, IsDf K I ds vs → ∀ {d : Dt}, ds.lookup f = some d → ∃ v, vs.lookup f = some v ∧ IsD K I d v
  | _, _, .nil, d, h => by cases h
  | _, _, .cons (k := k) a r, d, h => by
    rw [List.lookup_cons] at h ⊢
    cases e : f == k with
    | true =>
      rw [e] at h
      cases h
      exact ⟨_, rfl, a⟩
    | false =>
      rw [e] at h
      exact isDf_look r h
theorem rk_look {K : PySem.W.Frag} {I : Hp} {f : Str} : ∀ {ds : List (Str × Sv)} {vs : List (Str × V)}, Paired (RK K I) ds vs → ∀ {d : Sv}, ds.lookup f = some d → ∃ v, vs.lookup f = some v ∧ IsS K I d v
  | _, _, .nil, d, h => by cases h
  | _, _, .cons (a := (k, s)) (b := (k', v)) a r, d, h => by
    obtain ⟨e1, e2⟩ := a
    have e1 : k = k' := e1
    subst e1
    rw [List.lookup_cons] at h ⊢
    cases e : f == k with
    | true =>
      rw [e] at h
      cases h
      exact ⟨_, rfl, e2⟩
    | false =>
      rw [e] at h
      exact rk_look r h
def dFld (K : PySem.W.Frag) (f : Str) (te : DE) : DE := fun Δ st ok ex => te Δ st (fun s st1 => match s with
  | .dat (.ins C fs) => Cls K C ∧ NoAttr K C f ∧ ∃ d, fs.lookup f = some d ∧ ok (.dat d) st1
  | .own p => ∃ (j : Nat) (C : Addr) (fs : List (Str × Sv)) (x : Sv), st1[j]? = some (p, Ob.ins C fs) ∧ Cls K C ∧ NoAttr K C f ∧ fs.lookup f = some x ∧ ok x st1
  | _ => False) ex
theorem low_fld {K : PySem.W.Frag} {W : WX} {f : Str} {te : DE} : ∀ σ H Q, low K (dFld K f te) W σ H Q → tFld K (low K te W) f σ H Q := by
  rintro σ H Q ⟨Δ, st, I, ok, ex, wd, sl, h, c, cx⟩
  refine low_go wd sl h (fun x st1 v I1 H1 h1 w1 s1 i1 => ?_) cx
  cases i1 with
  | own p =>
    obtain ⟨j, C, fs, x, hj, cl, na, hl, h1⟩ := h1
    obtain ⟨o, ho, io⟩ := own_at w1 hj
    cases io with
    | ins hs =>
      obtain ⟨u, hu, iu⟩ := rk_look hs hl
      exact ⟨p, C, _, _, u, rfl, ho, cl, na, hu, (c.go s1).now w1 h1 iu⟩
  | dat hd =>
    cases hd with
    | ins a b =>
      obtain ⟨cl, na, d, hl, h1⟩ := h1
      obtain ⟨u, hu, iu⟩ := isDf_look b hl
      exact ⟨_, _, _, _, u, rfl, w1.sub.at a (by intro k z; cases z) (by intro k z; cases z), cl, na, hu, (c.go s1).now w1 h1 (.dat iu)⟩
    | _ => exact h1.elim
/-- a property by its getter's promise -/
def dProp (C : Addr) (ct : Ct) (te : DE) : DE := fun Δ st ok ex => te Δ st (fun s st1 => match s with
  | .dat (.ins D fs) => D = C ∧ ct [.dat (.ins D fs)] st1 ok fun _ _ => False
  | _ => False) ex
theorem low_prop {K : PySem.W.Frag} {W : WX} {C : Addr} {ct : Ct} {te : DE} : ∀ σ H Q, low K (dProp C ct te) W σ H Q → tProp C (lowF K ct) [] E0 (low K te W) σ H Q := by
  rintro σ H Q ⟨Δ, st, I, ok, ex, wd, sl, h, c, cx⟩
  refine low_go wd sl h (fun x st1 v I1 H1 h1 w1 s1 i1 => ?_) cx
  cases i1 with
  | own p => exact h1.elim
  | dat hd =>
    cases hd with
    | ins a b =>
      obtain ⟨rfl, h1⟩ := h1
      exact ⟨_, _, _, rfl, w1.sub.at a (by intro k z; cases z) (by intro k z; cases z), _, st1, I1, ok, _, w1, .cons (.dat (.ins a b)) .nil, h1, c.go s1, fun _ _ _ _ _ _ z => z.elim⟩
    | _ => exact h1.elim
/-- o.f = e, o of one's own -/
def putS (f : Str) (v : Sv) : List (Str × Sv) → List (Str × Sv)
  | [] => [(f, v)]
  | (g, x) :: r => if g = f then (g, v) :: r else (g, x) :: putS f v r
theorem rk_put {K : PySem.W.Frag} {I : Hp} {f : Str} {s : Sv} {v : V} (h : IsS K I s v) : ∀ {fs : List (Str × Sv)} {gs : List (Str × V)}, Paired (RK K I) fs gs → Paired (RK K I) (putS f s fs) (putF f v gs)
  | _, _, .nil => .cons ⟨rfl, h⟩ .nil
  | _, _, .cons (a := (k, x)) (b := (k', y)) a r => by
    obtain ⟨e1, e2⟩ := a
    have e1 : k = k' := e1
    subst e1
    show Paired (RK K I) (if k = f then (k, s) :: _ else (k, x) :: putS f s _) (if k = f then (k, v) :: _ else (k, y) :: putF f v _)
    by_cases e : k = f
    · rw [if_pos e, if_pos e]
      exact .cons ⟨rfl, h⟩ r
    · rw [if_neg e, if_neg e]
      exact .cons ⟨rfl, e2⟩ (rk_put h r)
def dSetF (K : PySem.W.Frag) (f : Str) (tv to : DE) : DS := fun Δ st N => tv Δ st (fun v st1 => to Δ st1 (fun o st2 => match o with
  | .own p => ∃ (j : Nat) (C : Addr) (fs fs' : List (Str × Sv)), st2[j]? = some (p, Ob.ins C fs) ∧ Cls K C ∧ NoAttr K C f ∧ fs.length < 1000 ∧ putS f v fs = fs' ∧ N.nx Δ (st2.set j (p, .ins C fs'))
  | _ => False) (exAt N Δ)) (exAt N Δ)
theorem lowS_setF {K : PySem.W.Frag} {W : WX} {f : Str} {tv to : DE} : ∀ D σ H, lowS K (dSetF K f tv to) W D σ H → sFld K (low K to W) (low K tv W) f D σ H := by
  rintro D σ H ⟨Δ, st, I, N, wd, sl, h, e⟩
  refine low_go wd sl h (fun v st1 vv I1 H1 h1 w1 s1 i1 => ?_) (cx_of sl e)
  refine low_go w1 (sl.mono s1.ii) h1 (fun o st2 ov I2 H2 h2 w2 s2 i2 => ?_) (cx_of (sl.mono s1.ii) (e.go s1))
  have s12 := s1.trans s2
  cases i2 with
  | dat hd => exact h2.elim
  | own p =>
    obtain ⟨j, C, fs, fs', hj, cl, na, hl, rfl, hn⟩ := h2
    obtain ⟨u, hu, io⟩ := own_at w2 hj
    cases io with
    | @ins _ dx _ gs hs =>
      obtain ⟨w3, s3⟩ := set_own (o' := .ins C dx (putF f vv gs)) w2 hj (.ins (rk_put (i1.mono s2.ii) hs))
      exact ⟨p, C, dx, gs, rfl, hu, cl, na, by rw [← paired_len hs]; exact hl, e.nx _ _ _ _ _ hn w3 (s12.trans s3) (sl.mono s12.ii)⟩
inductive AllF : List (Str × Sv) → List (Str × Dt) → Prop
  | nil : AllF [] []
  | cons {f : Str} {d : Dt} {xs : List (Str × Sv)} {ds : List (Str × Dt)} : AllF xs ds → AllF ((f, .dat d) :: xs) ((f, d) :: ds)
theorem isDf_of {K : PySem.W.Frag} {I : Hp} : ∀ {xs : List (Str × Sv)} {ds : List (Str × Dt)} {vs : List (Str × V)}, AllF xs ds → Paired (RK K I) xs vs → IsDf K I ds vs
  | _, _, _, .nil, .nil => .nil
  | _, _, _, .cons a, .cons (b := (k, v)) r t => by
    obtain ⟨e, i⟩ := r
    have e : _ = k := e
    subst e
    cases i with
    | dat h => exact .cons h (isDf_of a t)
/-- C(..): what __init__ promises, then the instance, known from then on -/
def dMake (C : Addr) (ct : Ct) (dds : List Dt) (t : DA) : DE := fun Δ st ok ex => t Δ st (fun xs st1 => ∀ p, p ∉ keys st1 → ct (.own p :: (xs ++ dds.map Sv.dat)) ((p, .ins C []) :: st1) (fun s st2 => s = .dat .non ∧ ∃ fs ds st3, st2 = (p, .ins C fs) :: st3 ∧ AllF fs ds ∧ ok (.dat (.ins C ds)) st3) ex) ex
def tMakeAt (C : Addr) (sp : Sp) (dvs : List V) (E : L2.St → XK) (t : TA) : TE := fun σ H Q => t σ H fun vs H1 => ∀ x dx, H1 x = none → H1 dx = none → dx ≠ x →
  sp (.ref x :: (vs ++ dvs)) (upd (upd H1 dx (.own x)) x (.ins C dx [])) (fun v H2 => v = .non ∧ Q (.ref x) H2) (E σ)
section
variable {K : PySem.W.Frag} {W : WX} {st : Store} {I H : Hp}
theorem new_ins {x dx C : Addr} (w : Wd K st I H) (hx : H x = none) (hd : H dx = none) (ne : dx ≠ x) : x ∉ keys st ∧ Wd K ((x, .ins C []) :: st) I (upd (upd H dx (.own x)) x (.ins C dx [])) ∧ Stp st I H ((x, .ins C []) :: st) I (upd (upd H dx (.own x)) x (.ins C dx [])) := by
  have w1 : Wd K st I (upd H dx (.own x)) := ⟨fun a u e => by
      have z : a ≠ dx := ne_of_none e (w.sub.none hd)
      rw [upd_ne z]
      exact w.sub a u e, fun q ob hq => by
      obtain ⟨h1, u, h2, h3⟩ := w.own q ob hq
      exact ⟨h1, u, by rw [upd_ne (ne_of_none h2 hd)]; exact h2, h3⟩, w.nd⟩
  have s1 : Stp st I H st I (upd H dx (.own x)) := ⟨Ex.refl _, fun a u _ e => by rw [upd_ne (ne_of_none e hd)]; exact e, fun a e => .inl e, fun q hq => .inl hq⟩
  obtain ⟨a, b, c⟩ := new_own (o := .ins C dx []) (ob := .ins C []) w1 (by rw [upd_ne ne.symm]; exact hx) (.ins .nil)
  exact ⟨a, b, s1.trans c⟩
theorem low_make {C : Addr} {ct : Ct} {dds : List Dt} {dvs : List V} {t : DA} (hd : ∀ I, IsSs K I (dds.map Sv.dat) dvs) : ∀ σ H Q, low K (dMake C ct dds t) W σ H Q → tMakeAt C (lowF K ct) dvs (WE W) (lowA K t W) σ H Q := by
  rintro σ H Q ⟨Δ, st, I, ok, ex, wd, sl, h, c, cx⟩
  refine lowA_go wd sl h (fun xs st1 vs I1 H1 h1 w1 s1 i1 => ?_) cx
  intro x dx hx hdx ne
  obtain ⟨np, w2, s2⟩ := new_ins (C := C) w1 hx hdx ne
  refine ⟨_, _, I1, _, ex, w2, .cons (.own x) (paired_app i1 (hd I1)), h1 x np, fun s st' v I' H' h' w' s' i' => ?_, cx.go (s1.trans s2)⟩
  obtain ⟨rfl, fs, ds, st3, rfl, hf, h'⟩ := h'
  cases i' with
  | dat hn =>
    cases hn
    refine ⟨rfl, ?_⟩
    have hm : (x, Ob.ins C fs) ∈ (x, Ob.ins C fs) :: st3 := List.mem_cons_self
    obtain ⟨ip, o, hp, io⟩ := w'.own x _ hm
    have nx : x ∉ keys st3 := (List.nodup_cons.mp w'.nd).1
    cases io with
    | @ins _ dx2 _ gs hs =>
      have e1 : Ex I' (upd I' x (.ins C dx2 gs)) := Ex.new ip
      have st13 : Stp st1 I1 H1 _ I' H' := s2.trans s'
      refine (c.go s1) _ _ _ (upd I' x (.ins C dx2 gs)) _ h' ⟨fun a u e => ?_, fun q ob hq => ?_, (List.nodup_cons.mp w'.nd).2⟩ ⟨st13.ii.trans e1, st13.hh, fun a ha => ?_, fun q hq => st13.ks q (List.mem_cons_of_mem _ hq)⟩ (.dat (.ins upd_same ((isDf_of hf hs).mono e1)))
      · by_cases z : a = x
        · subst z
          rw [upd_same] at e
          cases e
          exact .inl hp
        · rw [upd_ne z] at e
          exact w'.sub a u e
      · obtain ⟨a1, u, a2, a3⟩ := w'.own q ob (List.mem_cons_of_mem _ hq)
        have z : q ≠ x := fun z => nx (z ▸ List.mem_map.mpr ⟨_, hq, rfl⟩)
        exact ⟨by rw [upd_ne z]; exact a1, u, a2, a3.mono e1⟩
      · by_cases z : a = x
        · subst z
          exact .inr (.inl hx)
        · rw [upd_ne z] at ha
          exact st13.nw a ha
end
section
variable {X : Cx} {CX : CXT} {k : Nat} {f C : Addr} {fd : FuncData} {ps : List Str} {sp : Sp} {dvs : List V} {dus : List Value} {E : L2.St → XK} {x : Str} {p pos : Pos} {e : Expr} {es : List Expr} {t : TA}
/-- C(..), what is raised being wished for at the slots -/
theorem pe_makeAt (M : Mk X.K C f) (F : FnOk X.prog X.w X.K X.mg X.base CX k f fd ps sp) (hr : Room (k + 1) X.A) (hm : X.mg x = some (.ref C)) (hb : Binds X.K fd ps dus) (hd : Vals dvs dus) (hx : ∀ σ, PassesAt CX X σ (E σ))
    (ha : PA X (e :: es) t) (hg : Gl X x := by rfl) (hdb : (x == ("__debug__" : Str)) = false := by decide) (he : starEach (e :: es) X.env = (false, eval e X.env) :: starEach es X.env := by rfl) (hpl : (backTo pos (starEach es X.env)).any (·.1) = false := by rfl) :
    PE X (.Call (.Name x p) (e :: es) [] pos) (tMakeAt C sp dvs E t) := by
  constructor
  intro pins s σ H Q I h
  apply wpAny_Call_Name_kw
  apply ld_glob I hg hm _ hdb
  apply PySem.W.callWith_K (h₀ := X.base) I.ok.mod.kin M.kp _ he hpl
  apply thn (ha.run pos pins s σ H _ I h)
  rintro us s1 ⟨vs, H1, I1, r, h1⟩
  refine ⟨I1.kIn, ?_⟩
  -- the two new objects stand behind all others
  have q := h1 (s1.heap.objs.size + 1) s1.heap.objs.size (I1.hok.fresh (Nat.le_succ _)) (I1.hok.fresh (Nat.le_refl _)) (Nat.ne_of_lt (Nat.lt_succ_self _))
  have J := Inv.made (C := C) I1
  have rr : Vals (V.ref (s1.heap.objs.size + 1) :: (vs ++ dvs)) (Value.ref (s1.heap.objs.size + 1) :: (us ++ dus)) := .cons rfl (r.append hd)
  have len : (Value.ref (s1.heap.objs.size + 1) :: us ++ dus).length = ps.length := by
    have l1 := rr.length
    have l2 := F.len _ _ _ _ q
    rw [← l2]
    exact l1.symm
  apply wpAny_call
  apply make_map (f := f) I1.kIn M.makes M.init (beq_iff_eq.mp M.fn)
  apply codeAny_mono (F.run _ X.stack _ _ ⟨Value.ref (s1.heap.objs.size + 1) :: us, []⟩ (Value.ref (s1.heap.objs.size + 1) :: (us ++ dus)) _ _ (E σ) (hr.make C us []) (J.env0.make C us []) (hb _ (Value.ref (s1.heap.objs.size + 1) :: us) J.kIn len) rr q)
  intro res s2 hres
  match res, hres with
  | .error er, z => exact hx σ pins _ _ er s2 J z
  | .ok (.ret u), z =>
    obtain ⟨v, H2, I2, rv, ev, q2⟩ := J.after z
    subst ev
    exact ⟨rv, ⟨V.ref (s1.heap.objs.size + 1), H2, I2, rfl, q2⟩⟩
  | .ok .next, z => exact False.elim z
  | .ok .brk, z => exact False.elim z
  | .ok .cont, z => exact False.elim z
end
end DD
namespace DD
open PySem PySem.Spec PyProof.Rows L2
/-- the items that come, one after the other -/
structure Wk (K : PySem.W.Frag) (st : Store) (I H : Hp) (J : It) (xs : List Sv) : Prop where
  w : ∃ (G : Hp → Prop) (Y : Nat → Hp → V → Hp → Prop), Walk J xs.length G Y ∧ (∀ st2 I2 H2, Wd K st2 I2 H2 → Stp st I H st2 I2 H2 → G H2) ∧
    ∀ (i : Nat) H2 x H3 st2 I2, i < xs.length → Wd K st2 I2 H2 → Stp st I H st2 I2 H2 → Y i H2 x H3 → ∃ s I3, xs[i]? = some s ∧ Wd K st2 I3 H3 ∧ Stp st2 I2 H2 st2 I3 H3 ∧ IsS K I3 s x
abbrev DI := List Sv → Store → (List Sv → Store → Prop) → EK → Prop
def lowI (K : PySem.W.Frag) (it : DI) (W : WX) : TI := fun σ H R => ∃ Δ st I ok ex, Wd K st I H ∧ Sl K Δ I σ ∧ it Δ st ok ex ∧
  (∀ xs st' I' H' J, ok xs st' → Wd K st' I' H' → Stp st I H st' I' H' → Wk K st' I' H' J xs → R J H') ∧ ContX K st I H ex fun cls d H' => W cls d σ H'
theorem PI.imp {X : Cx} {tg e : Expr} {t t' : TI} (h : PI X tg e t) (i : ∀ σ H R, t' σ H R → t σ H R) : PI X tg e t' := ⟨fun pins s σ H R J q => h.run pins s σ H R J (i σ H R q)⟩
section
variable {K : PySem.W.Frag} {W : WX} {st : Store} {I H : Hp}
theorem wk_at {J : It} {xs : List Sv} {vs : List V} (hp : IsSs K I xs vs) {G : Hp → Prop} (w : Walk J vs.length G (YAt vs)) (hg : ∀ st2 I2 H2, Wd K st2 I2 H2 → Stp st I H st2 I2 H2 → G H2) : Wk K st I H J xs := by
  refine ⟨G, YAt vs, by rw [paired_len hp]; exact w, hg, fun i H2 x H3 st2 I2 hi w2 s2 y => ?_⟩
  obtain ⟨e, y⟩ := y
  subst e
  obtain ⟨s, h1, h2⟩ := paired_back hp y
  exact ⟨s, I2, h1, w2, Stp.refl _ _ _, h2.mono s2.ii⟩
/-- a known list, a list of one's own (not changed in the loop: its items as they are at the start) -/
def dItL (te : DE) : DI := fun Δ st ok ex => te Δ st (fun x st1 => match x with
  | .dat (.lst ds) => ok (ds.map .dat) st1
  | .dat (.fls ds) => ok (ds.map .dat) st1
  | _ => False) ex
def dItT (te : DE) : DI := fun Δ st ok ex => te Δ st (fun x st1 => match x with
  | .dat (.tup ds) => ok (ds.map .dat) st1
  | .dat (.ktu ds) => ok (ds.map .dat) st1
  | _ => False) ex
theorem low_itL {te : DE} : ∀ σ H R, lowI K (dItL te) W σ H R → iList K (low K te W) σ H R := by
  rintro σ H R ⟨Δ, st, I, ok, ex, wd, sl, h, c, cx⟩
  refine low_go wd sl h (fun x st1 v I1 H1 h1 w1 s1 i1 => ?_) cx
  cases i1 with
  | own p => exact h1.elim
  | dat hd =>
    cases hd with
    | lst a b => exact ⟨_, rfl, ⟨_, w1.sub.sl (.inl (.inl a))⟩, c _ _ _ _ _ h1 w1 s1 (wk_at (isSs_of b) walk_list fun st2 I2 H2 w2 s2 => w2.sub.sl (.inl (.inl (s2.ii _ _ a))))⟩
    | fls a b => exact ⟨_, rfl, ⟨_, w1.sub.sl a⟩, c _ _ _ _ _ h1 w1 s1 (wk_at (isSs_of b) walk_list fun st2 I2 H2 w2 s2 => w2.sub.sl (s2.ii.sl a))⟩
    | _ => exact h1.elim
theorem low_itT {te : DE} : ∀ σ H R, lowI K (dItT te) W σ H R → iTup K (low K te W) σ H R := by
  rintro σ H R ⟨Δ, st, I, ok, ex, wd, sl, h, c, cx⟩
  refine low_go wd sl h (fun x st1 v I1 H1 h1 w1 s1 i1 => ?_) cx
  cases i1 with
  | own p => exact h1.elim
  | dat hd =>
    cases hd with
    | tup a b => exact ⟨_, rfl, ⟨_, w1.sub.st a.st⟩, c _ _ _ _ _ h1 w1 s1 (wk_at (isSs_of b) walk_tup fun st2 I2 H2 w2 s2 => w2.sub.st (s2.ii.st a.st))⟩
    | ktu a b => exact ⟨_, rfl, ⟨_, w1.sub.st a⟩, c _ _ _ _ _ h1 w1 s1 (wk_at (isSs_of b) walk_tup fun st2 I2 H2 w2 s2 => w2.sub.st (s2.ii.st a))⟩
    | _ => exact h1.elim
/-- range(n), range(a, b) -/
def rngS (lo : Int) (n : Nat) : List Sv := (List.range n).map fun (i : Nat) => .dat (.int (lo + (i : Int)))
def dItR (ta : DA) : DI := fun Δ st ok ex => ta Δ st (fun xs st1 => match xs with
  | [.dat (.int n)] => -(2 ^ 62) ≤ n ∧ n < 2 ^ 62 ∧ ok (rngS 0 n.toNat) st1
  | _ => False) ex
def dItR2 (ta : DA) : DI := fun Δ st ok ex => ta Δ st (fun xs st1 => match xs with
  | [.dat (.int m), .dat (.int n)] => (-(2 ^ 62) ≤ m ∧ m < 2 ^ 62 ∧ -(2 ^ 62) ≤ n ∧ n < 2 ^ 62) ∧ ok (rngS m (n - m).toNat) st1
  | _ => False) ex
theorem wk_range {lo : Int} {n : Nat} : Wk K st I H (Itr lo n) (rngS lo n) := by
  refine ⟨fun _ => True, YFn fun i => .int (lo + i), by simpa [rngS] using walk_range, fun _ _ _ _ _ => trivial, fun i H2 x H3 st2 I2 hi w2 s2 y => ?_⟩
  obtain ⟨e, y⟩ := y
  subst e y
  have hi' : i < n := by simpa [rngS] using hi
  exact ⟨.dat (.int (lo + (i : Int))), I2, by simp [rngS, hi'], w2, Stp.refl _ _ _, .dat (.int _)⟩
theorem low_itR {ta : DA} : ∀ σ H R, lowI K (dItR ta) W σ H R → iRng1 (lowA K ta W) σ H R := by
  rintro σ H R ⟨Δ, st, I, ok, ex, wd, sl, h, c, cx⟩
  refine lowA_go wd sl h (fun xs st1 vs I1 H1 h1 w1 s1 i1 => ?_) cx
  split at h1
  · obtain ⟨v, rfl, iv⟩ := one_of rfl i1
    cases iv with
    | dat hd =>
      cases hd
      exact ⟨_, rfl, h1.1, h1.2.1, c _ _ _ _ _ h1.2.2 w1 s1 wk_range⟩
  · exact h1.elim
theorem low_itR2 {ta : DA} : ∀ σ H R, lowI K (dItR2 ta) W σ H R → iRng2 (lowA K ta W) σ H R := by
  rintro σ H R ⟨Δ, st, I, ok, ex, wd, sl, h, c, cx⟩
  refine lowA_go wd sl h (fun xs st1 vs I1 H1 h1 w1 s1 i1 => ?_) cx
  split at h1
  · exact ⟨_, _, two_int rfl i1, h1.1, c _ _ _ _ _ h1.2 w1 s1 wk_range⟩
  · exact h1.elim
/-- a text, sign by sign -/
def sgnS (z : Str) : List Sv := z.cps.toList.map fun c => .dat (.str ⟨#[c]⟩)
def dItS (te : DE) : DI := fun Δ st ok ex => te Δ st (fun x st1 => match x with
  | .dat (.str z) => ok (sgnS z) st1
  | _ => False) ex
theorem low_itS {te : DE} : ∀ σ H R, lowI K (dItS te) W σ H R → iStr (low K te W) σ H R := by
  rintro σ H R ⟨Δ, st, I, ok, ex, wd, sl, h, c, cx⟩
  refine low_go wd sl h (fun x st1 v I1 H1 h1 w1 s1 i1 => ?_) cx
  cases i1 with
  | own p => exact h1.elim
  | dat hd =>
    cases hd with
    | str z =>
      refine ⟨z, rfl, c _ _ _ _ _ h1 w1 s1 ⟨fun _ => True, _, by simpa [sgnS] using walk_str, fun _ _ _ _ _ => trivial, fun i H2 x H3 st2 I2 hi w2 s2 y => ?_⟩⟩
      obtain ⟨e, c, hc, y⟩ := y
      subst e y
      exact ⟨.dat (.str ⟨#[c]⟩), I2, by rw [sgnS, List.getElem?_map, Array.getElem?_toList, hc]; rfl, w2, Stp.refl _ _ _, .dat (.str _)⟩
    | _ => exact h1.elim
def dFor (it : DI) (g : DG) (body : DS) : DS := fun Δ st N => it Δ st (fun xs st1 => loopD xs g body Δ st1 N) (exAt N Δ)
theorem for_go {g : DG} {body : DS} {Δ : List Sv} {N : DN} {D : Ends} {σ : L2.St} {J : It} {xs : List Sv} (e : Ends_ K st I H N W D) (w1 : Wd K st I H) (sl : Sl K Δ I σ) (h1 : loopD xs g body Δ st N) (k1 : Wk K st I H J xs) :
    ∃ W' : Nat → Nat → L2.St → Hp → Prop, (∃ m, W' 0 m σ H) ∧ ∀ i m σ H, W' i m σ H →
      (J.stop i H ∧ D.nx σ H) ∨ (J.go i H ∧ ∃ N : L2.St → Hp → Prop, (∀ σ' H', N σ' H' → ∃ m', m' < m ∧ W' (i + 1) m' σ' H') ∧ ∀ x H', J.yld i H x H' → lowG K g x σ H' fun σ2 H2 => lowS K body W { D with nx := N, ct := N, bk := D.nx } σ2 H2) := by
  rw [loopD_eq] at h1
  obtain ⟨Jv, j0, jt, je⟩ := h1
  obtain ⟨G, Y, wk, hg, hy⟩ := k1.w
  refine for_it wk (fun i σ' H' => ∃ Δ' st' I', Jv i Δ' st' ∧ Wd K st' I' H' ∧ Sl K Δ' I' σ' ∧ Stp st I H st' I' H') ⟨Δ, st, I, j0, w1, sl, Stp.refl _ _ _⟩ (fun i σ' H' _ ⟨_, st', I', _, w', _, s'⟩ => hg st' I' H' w' s') ?_ ?_
  · rintro i x σ' H' H3 hi ⟨Δ', st', I', hj, w', l', s'⟩ y
    obtain ⟨d, I3, hd, w3, s3, ix⟩ := hy i H' x H3 st' I' hi w' s' y
    exact loop_turn e w3 (l'.mono s3.ii) (s'.trans s3) ix (jt i d Δ' st' hd hj)
  · rintro σ' H' ⟨Δ', st', I', hj, w', l', s'⟩
    exact e.nx _ _ _ _ _ (je _ _ hj) w' s' l'
theorem lowS_for {it : DI} {g : DG} {body : DS} : ∀ D σ H, lowS K (dFor it g body) W D σ H → tFor (lowI K it W) (lowG K g) (lowS K body W) D σ H := by
  rintro D σ H ⟨Δ, st, I, N, wd, sl, h, e⟩
  exact ⟨Δ, st, I, _, _, wd, sl, h, fun xs st1 I1 H1 J h1 w1 s1 k1 => for_go (e.go s1) w1 (sl.mono s1.ii) h1 k1, cx_of sl e⟩
def wipeD (Δ : List Sv) : List Nat → List Sv
  | [] => Δ
  | v :: vs => (wipeD Δ vs).set v .un
theorem sl_un {Δ : List Sv} {σ : L2.St} (h : Sl K Δ I σ) (i : Nat) : Sl K (Δ.set i .un) I (σ.set i none) := by
  refine ⟨by rw [List.length_set, List.length_set]; exact h.1, fun j t ht => ?_⟩
  by_cases e : i = j
  · subst e
    have hl : i < Δ.length := by
      have := (List.getElem?_eq_some_iff.mp ht).1
      rwa [List.length_set] at this
    rw [List.getElem?_set_self hl] at ht
    cases ht
    exact .inl rfl
  · rw [List.getElem?_set_ne e] at ht
    rw [List.getElem?_set_ne e]
    exact h.2 j t ht
theorem sl_wipe {Δ : List Sv} {σ : L2.St} (h : Sl K Δ I σ) : ∀ vs, Sl K (wipeD Δ vs) I (wipe σ vs)
  | [] => h
  | v :: vs => sl_un (sl_wipe h vs) v
theorem wipe_set {σ : L2.St} {i : Nat} {x : Option V} : ∀ {vs : List Nat}, i ∈ vs → wipe (σ.set i x) vs = wipe σ vs
  | v :: vs, h => by
    unfold wipe
    by_cases e : i = v
    · subst e
      by_cases h2 : i ∈ vs
      · rw [wipe_set h2]
      · have : ∀ {vs : List Nat}, i ∉ vs → wipe (σ.set i x) vs = (wipe σ vs).set i x := by
          intro vs
          induction vs with
          | nil => intro _; rfl
          | cons w ws ih =>
            intro hn
            show (wipe (σ.set i x) ws).set w none = ((wipe σ ws).set w none).set i x
            have hwi : w ≠ i := fun z => hn (by rw [z]; exact List.mem_cons_self)
            rw [ih (fun z => hn (List.mem_cons_of_mem _ z)), List.set_comm _ _ hwi.symm]
        rw [this h2, List.set_set]
    · rw [wipe_set ((List.mem_cons.mp h).resolve_left e)]
theorem wipe_wipe {σ : L2.St} : ∀ vs : List Nat, wipe (wipe σ vs) vs = wipe σ vs := by
  intro vs
  have : ∀ ws : List Nat, (∀ w ∈ ws, w ∈ vs) → wipe (wipe σ ws) vs = wipe σ vs := by
    intro ws
    induction ws with
    | nil => intro _; rfl
    | cons w ws ih =>
      intro hw
      show wipe ((wipe σ ws).set w none) vs = _
      rw [wipe_set (hw w List.mem_cons_self), ih fun z hz => hw z (List.mem_cons_of_mem _ hz)]
  exact this vs fun _ h => h
/-- targets that keep to the slots vs -/
def lowGw (K : PySem.W.Frag) (vs : List Nat) (g : DG) : TG := fun v σ H Q => ∃ s Δ st I k, Wd K st I H ∧ Sl K Δ I σ ∧ IsS K I s v ∧ g s Δ st k ∧ ContS K st I H k fun σ' H' => wipe σ' vs = wipe σ vs → Q σ' H'
def lowGsw (K : PySem.W.Frag) (vs : List Nat) (g : DGs) : TGs := fun ss σ H Q => ∃ xs Δ st I k, Wd K st I H ∧ Sl K Δ I σ ∧ IsSs K I xs ss ∧ g xs Δ st k ∧ ContS K st I H k fun σ' H' => wipe σ' vs = wipe σ vs → Q σ' H'
theorem lowGw_name {vs : List Nat} {i : Nat} (hi : i ∈ vs) : ∀ v σ H Q, lowGw K vs (dgName i) v σ H Q → gName i v σ H Q := by
  rintro v σ H Q ⟨s, Δ, st, I, k, wd, sl, iv, h, c⟩
  exact c _ _ _ _ _ h wd (Stp.refl _ _ _) (sl.set iv) (wipe_set hi)
theorem lowGsw_nil {vs : List Nat} : ∀ v σ H Q, lowGsw K vs dgNil v σ H Q → gNil v σ H Q := by
  rintro v σ H Q ⟨s, Δ, st, I, k, wd, sl, iv, h, c⟩
  cases iv with
  | nil => exact ⟨rfl, c _ _ _ _ _ h wd (Stp.refl _ _ _) sl rfl⟩
  | cons a b => exact h.elim
theorem lowGsw_cons {vs : List Nat} {g : DG} {u : DGs} : ∀ v σ H Q, lowGsw K vs (dgCons g u) v σ H Q → gCons (lowGw K vs g) (lowGsw K vs u) v σ H Q := by
  rintro v σ H Q ⟨s, Δ, st, I, k, wd, sl, iv, h, c⟩
  cases iv with
  | nil => exact h.elim
  | cons a b =>
    refine ⟨_, _, rfl, _, Δ, st, I, _, wd, sl, a, h, fun Δ1 st1 σ1 I1 H1 h1 w1 s1 l1 e1 => ?_⟩
    exact ⟨_, Δ1, st1, I1, k, w1, l1, paired_mono (fun _ _ => IsS.mono s1.ii) b, h1, fun Δ2 st2 σ2 I2 H2 h2 w2 s2 l2 e2 => c _ _ _ _ _ h2 w2 (s1.trans s2) l2 (e2.trans e1)⟩
theorem lowGw_tup {vs : List Nat} {n : Nat} {u : DGs} : ∀ v σ H Q, lowGw K vs (dgTup n u) v σ H Q → gTup K n (lowGsw K vs u) v σ H Q := by
  rintro v σ H Q ⟨s, Δ, st, I, k, wd, sl, iv, h, c⟩
  obtain ⟨a, ws, xs, rfl, ht, hx, hl, h⟩ := withT_rd wd iv h
  exact ⟨a, ws, rfl, ht, by rw [← paired_len hx]; exact hl, xs, Δ, st, I, k, wd, sl, hx, h, c⟩
abbrev W0 : WX := fun _ _ _ _ => False
def dYes : DT := fun _ st ok _ => ok true st
/-- [elt for g in it if tt]: J by the turn, what is made so far, the store without the new list (at D) -/
@[irreducible] def lcD (g : DG) (tt : DT) (te : DE) (vs : List Nat) (xs : List Sv) (Δ : List Sv) (st1 : Store) (ok : OK) : Prop := ∀ D, D ∉ keys st1 → ∃ J : Nat → List Sv → Store → Prop, J 0 [] st1 ∧
  (∀ i d acc st', xs[i]? = some d → J i acc st' → D ∉ keys st' → g d (wipeD Δ vs) ((D, .lst acc) :: st') fun Δ2 st2 => tt Δ2 st2 (fun b st3 =>
    (b = true → te Δ2 st3 (fun y st4 => ∃ acc' st5, st4 = (D, .lst acc') :: st5 ∧ acc'.length < sizeLine ∧ J (i + 1) (acc' ++ [y]) st5) fun _ _ => False) ∧ (b = false → ∃ acc' st5, st3 = (D, .lst acc') :: st5 ∧ J (i + 1) acc' st5)) fun _ _ => False) ∧
  ∀ acc st', J xs.length acc st' → ∃ ds, AllD acc ds ∧ ok (.dat (.lst ds)) st'
theorem lcD_eq (g : DG) (tt : DT) (te : DE) (vs : List Nat) (xs : List Sv) (Δ : List Sv) (st1 : Store) (ok : OK) : lcD g tt te vs xs Δ st1 ok = (∀ D, D ∉ keys st1 → ∃ J : Nat → List Sv → Store → Prop, J 0 [] st1 ∧
  (∀ i d acc st', xs[i]? = some d → J i acc st' → D ∉ keys st' → g d (wipeD Δ vs) ((D, .lst acc) :: st') fun Δ2 st2 => tt Δ2 st2 (fun b st3 =>
    (b = true → te Δ2 st3 (fun y st4 => ∃ acc' st5, st4 = (D, .lst acc') :: st5 ∧ acc'.length < sizeLine ∧ J (i + 1) (acc' ++ [y]) st5) fun _ _ => False) ∧ (b = false → ∃ acc' st5, st3 = (D, .lst acc') :: st5 ∧ J (i + 1) acc' st5)) fun _ _ => False) ∧
  ∀ acc st', J xs.length acc st' → ∃ ds, AllD acc ds ∧ ok (.dat (.lst ds)) st') := by
  unfold lcD
  rfl
def dLc (it : DI) (g : DG) (tt : DT) (te : DE) (vs : List Nat) : DE := fun Δ st ok ex => it Δ st (fun xs st1 => lcD g tt te vs xs Δ st1 ok) ex
theorem pub_head {p : Addr} {ob : Ob} {o : HO} {st0 : Store} {I0 H0 : Hp} (w : Wd K ((p, ob) :: st) I H) (hp : H p = some o) (sp : Stp st0 I0 H0 ((p, ob) :: st) I H) : Wd K st (upd I p o) H ∧ Stp st0 I0 H0 st (upd I p o) H ∧ Ex I (upd I p o) := by
  obtain ⟨ip, _⟩ := w.own p ob List.mem_cons_self
  have np : p ∉ keys st := (List.nodup_cons.mp w.nd).1
  have e1 : Ex I (upd I p o) := Ex.new ip
  refine ⟨⟨fun a u e => ?_, fun q ob2 hq => ?_, (List.nodup_cons.mp w.nd).2⟩, ⟨sp.ii.trans e1, sp.hh, fun a ha => ?_, fun q hq => sp.ks q (List.mem_cons_of_mem _ hq)⟩, e1⟩
  · by_cases z : a = p
    · subst z
      rw [upd_same] at e
      cases e
      exact .inl hp
    · rw [upd_ne z] at e
      exact w.sub a u e
  · obtain ⟨a1, u, a2, a3⟩ := w.own q ob2 (List.mem_cons_of_mem _ hq)
    have z : q ≠ p := fun z => np (z ▸ List.mem_map.mpr ⟨_, hq, rfl⟩)
    exact ⟨by rw [upd_ne z]; exact a1, u, a2, a3.mono e1⟩
  · by_cases z : a = p
    · subst z
      rcases sp.ks a List.mem_cons_self with q | q
      · exact .inr (.inr (.inl q))
      · exact .inr (.inl q)
    · rw [upd_ne z] at ha
      exact sp.nw a ha
theorem lc_go {g : DG} {tt : DT} {te : DE} {vs : List Nat} {Δ : List Sv} {ok : OK} {σ : L2.St} {Q : VK} {J : It} {xs : List Sv} (w1 : Wd K st I H) (sl : Sl K Δ I σ) (h1 : lcD g tt te vs xs Δ st ok) (k1 : Wk K st I H J xs) (c : Cont K st I H ok Q) :
    ∀ D, H D = none → ∃ W : Nat → Nat → Hp → Prop, (∃ m, W 0 m (upd H D (.lst []))) ∧ ∀ i m H, W i m H →
  (J.stop i H ∧ Q (.ref D) H) ∨ (J.go i H ∧ ∃ Nx : Hp → Prop, (∀ H', Nx H' → ∃ m', m' < m ∧ W (i + 1) m' H') ∧ ∀ x H', J.yld i H x H' → lowGw K vs g x (wipe σ vs) H' fun σ2 H2 => wipe σ2 vs = wipe σ vs ∧ lowT K tt W0 σ2 H2 fun b H3 =>
    if b = true then low K te W0 σ2 H3 fun y H4 => ∃ acc, H4 D = some (.lst acc) ∧ acc.length < sizeLine ∧ Nx (upd H4 D (.lst (acc ++ [y]))) else Nx H3) := by
  intro D hD
  obtain ⟨np, w2, s2⟩ := new_own (o := .lst []) (ob := .lst []) w1 hD (.lst .nil)
  rw [lcD_eq] at h1
  obtain ⟨Jv, j0, jt, je⟩ := h1 D np
  obtain ⟨G, Y, wk, hg, hy⟩ := k1.w
  refine lc_it wk (fun i H' => ∃ acc st' I', Jv i acc st' ∧ Wd K ((D, .lst acc) :: st') I' H' ∧ Stp st I H ((D, .lst acc) :: st') I' H') ⟨[], st, I, j0, w2, s2⟩ (fun i H' _ ⟨_, _, I', _, w', s'⟩ => hg _ I' H' w' s') ?_ ?_
  · rintro i x H' H3 hi ⟨acc, st', I', hj, w', s'⟩ y
    obtain ⟨d, I3, hd, w3, s3, ix⟩ := hy i H' x H3 _ I' hi w' s' y
    have s13 := s'.trans s3
    have nd : D ∉ keys st' := (List.nodup_cons.mp w'.nd).1
    refine ⟨d, _, _, I3, _, w3, sl_wipe (sl.mono s13.ii) vs, ix, jt i d acc st' hd hj nd, fun Δ4 st4 σ4 I4 H4 h4 w4 s4 l4 e4 => ?_⟩
    have s14 := s13.trans s4
    refine ⟨by rw [e4, wipe_wipe], ?_⟩
    refine lowT_go w4 l4 h4 (fun b st5 I5 H5 h5 w5 s5 => ?_) (fun _ _ _ _ _ _ z => z.elim)
    have s15 := s14.trans s5
    cases b with
    | true =>
      refine iteT (low_go w5 (l4.mono s5.ii) (h5.1 rfl) (fun z st6 u I6 H6 h6 w6 s6 i6 => ?_) (fun _ _ _ _ _ _ z => z.elim))
      obtain ⟨acc', st7, rfl, hl, hj'⟩ := h6
      obtain ⟨_, o, ho, io⟩ := w6.own D _ List.mem_cons_self
      cases io with
      | @lst _ ws hs =>
        obtain ⟨w7, s7⟩ := set_own (j := 0) (o' := .lst (ws ++ [u])) (ob' := .lst (acc' ++ [z])) w6 rfl (.lst (paired_app hs (.cons i6 .nil)))
        exact ⟨ws, ho, by rw [← paired_len hs]; exact hl, acc' ++ [z], st7, I6, hj', w7, (s15.trans s6).trans s7⟩
    | false =>
      refine iteF ?_
      obtain ⟨acc', st7, rfl, hj'⟩ := h5.2 rfl
      exact ⟨acc', st7, I5, hj', w5, s15⟩
  · rintro H' ⟨acc, st', I', hj, w', s'⟩
    obtain ⟨ds, ha, hok⟩ := je _ _ hj
    obtain ⟨_, o, ho, io⟩ := w'.own D _ List.mem_cons_self
    cases io with
    | lst hs =>
      obtain ⟨w9, s9, e9⟩ := pub_head w' ho s'
      exact c _ _ _ _ _ hok w9 s9 (.dat (.lst upd_same ((isDs_of ha hs).mono e9)))
theorem low_lc {it : DI} {g : DG} {tt : DT} {te : DE} {vs : List Nat} : ∀ σ H Q, low K (dLc it g tt te vs) W σ H Q → tLc (lowI K it W) (lowGw K vs g) (lowT K tt W0) (low K te W0) vs σ H Q := by
  rintro σ H Q ⟨Δ, st, I, ok, ex, wd, sl, h, c, cx⟩
  exact ⟨Δ, st, I, _, _, wd, sl, h, fun xs st1 I1 H1 J h1 w1 s1 k1 => lc_go w1 (sl.mono s1.ii) h1 k1 (c.go s1), cx⟩
end
end DD
namespace DD
open PySem PySem.Spec PyProof.Rows L2
structure KdB (x : Str) (k : Kd) : Prop where
  v : bootBuiltins x = some (.type k.nm)
theorem kb_int : KdB "int" .int := ⟨PyProof.Rows.boot_int⟩
theorem kb_bool : KdB "bool" .bl := ⟨PyProof.Rows.boot_bool⟩
theorem kb_str : KdB "str" .str := ⟨PyProof.Rows.boot_str⟩
theorem kb_list : KdB "list" .lst := ⟨PyProof.Rows.boot_list⟩
theorem kb_tuple : KdB "tuple" .tup := ⟨PyProof.Rows.boot_tuple⟩
theorem kb_dict : KdB "dict" .dic := ⟨PyProof.Rows.boot_dict⟩
section
variable {X : Cx} {W : WX} {a b c e o : Expr} {es : List Expr} {ta tb tc te : DE} {pos p p2 apos : Pos} {s : Stmt} {ss : List Stmt} {t u : DS}
/-- isinstance(e, T) -/
theorem disi (K : PySem.W.Frag) {k : Kd} {x : Str} (hm : X.mg "isinstance" = none) (hx : X.mg x = none) (hv : KdB x k) (he : PEd X W e te) (hg : Gl X "isinstance" := by rfl) (hgx : Gl X x := by rfl) (hn : x ≠ "__name__" := by decide) (hd : (x == ("__debug__" : Str)) = false := by decide)
    (h1 : starEach [e, .Name x p2] X.env = (false, eval e X.env) :: starEach [.Name x p2] X.env := by rfl) (hpl : (backTo pos (starEach [.Name x p2] X.env)).any (·.1) = false := by rfl) (hK : X.K = K := by rfl) : PEd X W (.Call (.Name "isinstance" p) [e, .Name x p2] [] pos) (dIsi K k te) := by
  subst hK
  exact PE.imp (pe_callB call_isi hg hm PyProof.Rows.boot_isinstance (pa_cons he (pa_cons (pe_bltn (v := .ty k.nm) hgx hx hv.v rfl hn hd) pa_nil) h1) (he := h1) (hpl := hpl)) low_isi
theorem dand {rest : List Expr} (ha : PEd X W a ta) (hb : PEd X W (.BoolOp .And (b :: rest) pos) tb) : PEd X W (.BoolOp .And (a :: b :: rest) pos) (dAnd ta tb) := PE.imp (pe_and ha hb) low_and
theorem done {op} (h : PEd X W a ta) : PEd X W (.BoolOp op [a] pos) ta := pe_one h
theorem dnot (h : PEd X W a ta) : PEd X W (.UnaryOp .Not a pos) (dNot ta) := PE.imp (pe_not h) low_not
theorem difx {tt : DT} (hc : PTd X W c tt) (ha : PEd X W a ta) (hb : PEd X W b tb) : PEd X W (.IfExp c a b pos) (dIf tt ta tb) := PE.imp (pe_ifExp hc ha hb) low_if
/-- tests -/
theorem tval (h : PEd X W e te) (he : ∀ whole, isTrue e X.env whole = (do let v ← whole; standAt e.pos; holding [v] (truthy v)) := by intro _; rfl) : PTd X W e (dTest te) := PT.imp (pt_val h he) lowT_B
theorem tisN {j pos'} (h : PEd X W a ta) : PTd X W (.Compare a [.Is] [.Constant .none j pos'] pos) (dTest (dIsN ta)) := PT.imp (pt_cmp (pc_isN h)) fun σ H Q h => by
  obtain ⟨Δ, st, I, ok, ex, wd, sl, h, c, cx⟩ := h
  refine low_isN _ _ _ ⟨Δ, st, I, _, ex, wd, sl, h, fun s st' v I' H' h' w' s' i' => ?_, cx⟩
  cases i' with
  | own p => exact h'.elim
  | dat hd =>
    cases hd with
    | bl k => exact ⟨k, rfl, c _ _ _ _ h' w' s'⟩
    | _ => exact h'.elim
theorem tnotN {j pos'} (h : PEd X W a ta) : PTd X W (.Compare a [.IsNot] [.Constant .none j pos'] pos) (dTest (dNotN ta)) := PT.imp (pt_cmp (pc_notN h)) fun σ H Q h => by
  obtain ⟨Δ, st, I, ok, ex, wd, sl, h, c, cx⟩ := h
  refine low_notN _ _ _ ⟨Δ, st, I, _, ex, wd, sl, h, fun s st' v I' H' h' w' s' i' => ?_, cx⟩
  cases i' with
  | own p => exact h'.elim
  | dat hd =>
    cases hd with
    | bl k => exact ⟨k, rfl, c _ _ _ _ h' w' s'⟩
    | _ => exact h'.elim
theorem tnot {tt : DT} (h : PTd X W a tt) : PTd X W (.UnaryOp .Not a pos) (dNotT tt) := PT.imp (pt_not h) lowT_not
abbrev PWd (X : Cx) (W : WX) (e : Expr) (t : DT) : Prop := PW X e (lowT X.K t W)
theorem wand1 {tt : DT} (h : PTd X W a tt) : PWd X W (.BoolOp .And [a] pos) tt := pw_and1 h
theorem wor1 {tt : DT} (h : PTd X W a tt) : PWd X W (.BoolOp .Or [a] pos) tt := pw_or1 h
theorem wand {tt uu : DT} {rest : List Expr} (h : PTd X W a tt) (h2 : PWd X W (.BoolOp .And (b :: rest) pos) uu) : PWd X W (.BoolOp .And (a :: b :: rest) pos) (dAndT tt uu) := ⟨fun wh pins s σ H Q J q => (pw_and h h2).run wh pins s σ H Q J (lowT_and _ _ _ q)⟩
theorem wor {tt uu : DT} {rest : List Expr} (h : PTd X W a tt) (h2 : PWd X W (.BoolOp .Or (b :: rest) pos) uu) : PWd X W (.BoolOp .Or (a :: b :: rest) pos) (dOrT tt uu) := ⟨fun wh pins s σ H Q J q => (pw_or h h2).run wh pins s σ H Q J (lowT_or _ _ _ q)⟩
theorem tw {tt : DT} (h : PWd X W a tt) : PTd X W a tt := h.pt
theorem tchain {op op' : CmpOp} {r r' : R2} {g g' : G2} (ho : OpR X (compareOp op) r) (ho' : OpR X (compareOp op') r') (hr : LR2 X.K r g) (hr' : LR2 X.K r' g') (ha : PEd X W a ta) (hb : PEd X W b tb) (hc : PEd X W c tc)
    (hm : lastMarks [op, op'] [b, c] = false := by with_unfolding_all rfl) : PTd X W (.Compare a [op, op'] [b, c] pos) (dTest (dChain g g' ta tb tc)) := PT.imp (pt_chain ho ho' ha hb hc hm) fun σ H Q h => by
  obtain ⟨Δ, st, I, ok, ex, wd, sl, h, c, cx⟩ := h
  refine low_chain hr hr' _ _ _ ⟨Δ, st, I, _, ex, wd, sl, h, fun s st' v I' H' h' w' s' i' => ?_, cx⟩
  cases i' with
  | own p => exact h'.elim
  | dat hd =>
    cases hd with
    | bl k => exact ⟨k, rfl, c _ _ _ _ h' w' s'⟩
    | _ => exact h'.elim
/-- fields, properties, instances -/
theorem dfld (K : PySem.W.Frag) {f : Str} (he : PEd X W e te) (hb : attributeBase e f X.env (eval e X.env) = eval e X.env := by rfl) (hK : X.K = K := by rfl) : PEd X W (.Attribute e f pos) (dFld K f te) := by
  subst hK
  exact PE.imp (pe_fld he hb) low_fld
theorem dprop {f : Str} {C q g : Addr} {k : Nat} {fd : FuncData} {ps : List Str} {ct : Ct} (c : Cls X.K C) (hp : PropOf X.K C f q g) (F : FnOk X.prog X.w X.K X.mg X.base (L2.CX X.prog X.w) k g fd ps (lowF X.K ct)) (hr : Room (k + 1) X.A) (hb : Binds X.K fd ps [])
    (he : PEd X W e te) (hab : attributeBase e f X.env (eval e X.env) = eval e X.env := by rfl) : PEd X W (.Attribute e f pos) (dProp C ct te) := PE.imp (pe_prop he c hp F hr hb .nil passL hab) low_prop
theorem ssetF (K : PySem.W.Frag) {f : Str} {p' : Pos} {tv to : DE} (hv : PEd X W e tv) (ho : PEd X W o to) (hs : swapsWith e (some (.Attribute o f p')) pos.line X.env = pure false := by rfl) (hK : X.K = K := by rfl) : PSd X W (.Assign [.Attribute o f p'] e pos) (dSetF K f tv to) := by
  subst hK
  exact PS.imp (ps_fld ho hv hs) lowS_setF
theorem dmake {ct : Ct} {k : Nat} {f C : Addr} {fd : FuncData} {ps : List Str} {x : Str} {dds : List Dt} {dvs : List V} {dus : List Value} {t : DA} (M : Mk X.K C f) (F : FnOk X.prog X.w X.K X.mg X.base (L2.CX X.prog X.w) k f fd ps (lowF X.K ct)) (hr : Room (k + 1) X.A) (hm : X.mg x = some (.ref C))
    (hb : Binds X.K fd ps dus) (hd : Vals dvs dus) (hdd : ∀ I, IsSs X.K I (dds.map Sv.dat) dvs) (tk : Takes X W) (ha : PAd X W (e :: es) t) (hg : Gl X x := by rfl) (hdb : (x == ("__debug__" : Str)) = false := by decide)
    (he : starEach (e :: es) X.env = (false, eval e X.env) :: starEach es X.env := by rfl) (hpl : (backTo pos (starEach es X.env)).any (·.1) = false := by rfl) : PEd X W (.Call (.Name x p) (e :: es) [] pos) (dMake C ct dds t) :=
  PE.imp (pe_makeAt M F hr hm hb hd (fun σ => passAt tk σ) ha hg hdb he hpl) (low_make hdd)
/-- targets, walks, comprehensions -/
theorem gsnil : PGsd X [] dgNil := ⟨fun pins s σ H vs us Q I r h => pgs_nil.run pins s σ H vs us Q I r (lowGs_nil _ _ _ _ h)⟩
theorem gscons {g : DG} {v : DGs} (h1 : PGd X e g) (h2 : PGsd X es v) (hs : (assignEach (e :: es) X.env).map (·.2) = assign e X.env :: (assignEach es X.env).map (·.2) := by rfl) : PGsd X (e :: es) (dgCons g v) := ⟨fun pins s σ H vs us Q I r h => (pgs_cons h1 h2 hs).run pins s σ H vs us Q I r (lowGs_cons _ _ _ _ h)⟩
theorem gtup (n : Nat) {k : Nat} {v : DGs} (h : PGsd X es v) (hc : X.calm = true := by rfl) (hn : (assignEach es X.env).length = n := by rfl) (hst : (assignEach es X.env).findIdx? (·.1) = none := by rfl) : PGd X (.Tuple es k pos) (dgTup n v) := ⟨fun pins s σ H vs us Q I r q => (pg_tup hc h hn hst).run pins s σ H vs us Q I r (lowG_tup _ _ _ _ q)⟩
abbrev PGw (X : Cx) (vs : List Nat) (e : Expr) (g : DG) : Prop := PG X e (lowGw X.K vs g)
abbrev PGsw (X : Cx) (vs : List Nat) (es : List Expr) (g : DGs) : Prop := PGs X es (lowGsw X.K vs g)
theorem gwname (i : Nat) {vs : List Nat} {x : Str} (hN : X.N.Nodup) (hv : i ∈ vs := by decide) (hi : X.N[i]? = some x := by rfl) (hx : Loc X.env.scope x := by first | exact Or.inl rfl | exact Or.inr rfl) (hf : X.fn x = true ∨ X.env.scope.names.lookup x = some .local := by first | exact .inl rfl | exact .inr rfl | assumption) : PGw X vs (.Name x pos) (dgName i) :=
  ⟨fun pins s σ H v u Q I r h => (pg_name hN hi hx hf).run pins s σ H v u Q I r (lowGw_name hv _ _ _ _ h)⟩
theorem gswnil {vs : List Nat} : PGsw X vs [] dgNil := ⟨fun pins s σ H ws us Q I r h => pgs_nil.run pins s σ H ws us Q I r (lowGsw_nil _ _ _ _ h)⟩
theorem gswcons {vs : List Nat} {g : DG} {v : DGs} (h1 : PGw X vs e g) (h2 : PGsw X vs es v) (hs : (assignEach (e :: es) X.env).map (·.2) = assign e X.env :: (assignEach es X.env).map (·.2) := by rfl) : PGsw X vs (e :: es) (dgCons g v) := ⟨fun pins s σ H ws us Q I r h => (pgs_cons h1 h2 hs).run pins s σ H ws us Q I r (lowGsw_cons _ _ _ _ h)⟩
theorem gwtup (n : Nat) {vs : List Nat} {k : Nat} {v : DGs} (h : PGsw X vs es v) (hc : X.calm = true := by rfl) (hn : (assignEach es X.env).length = n := by rfl) (hst : (assignEach es X.env).findIdx? (·.1) = none := by rfl) : PGw X vs (.Tuple es k pos) (dgTup n v) := ⟨fun pins s σ H ws us Q I r q => (pg_tup hc h hn hst).run pins s σ H ws us Q I r (lowGw_tup _ _ _ _ q)⟩
theorem sasgG {tg : Expr} {g : DG} (he : PEd X W e te) (hg : PGd X tg g) (hs : swapsWithSole [tg] e pos.line X.env = pure false := by rfl) (hw : swappedStores [tg] e X.env = pure none := by rfl)
    (h1 : (assignEach [tg] X.env).map (·.2) = [assign tg X.env] := by rfl) : PSd X W (.Assign [tg] e pos) (dAsgG g te) := PS.imp (ps_asg he hg hs hw h1) lowS_asgG
abbrev PId (X : Cx) (W : WX) (tg e : Expr) (t : DI) : Prop := PI X tg e (lowI X.K t W)
theorem iL {tg : Expr} (h : PEd X W e te) : PId X W tg e (dItL te) := PI.imp (pi_list h) low_itL
theorem iT {tg : Expr} (h : PEd X W e te) : PId X W tg e (dItT te) := PI.imp (pi_tup h) low_itT
theorem iS {tg : Expr} (h : PEd X W e te) : PId X W tg e (dItS te) := PI.imp (pi_str h) low_itS
theorem iR {tg : Expr} {t : DA} (hm : X.mg "range" = none) (h : PAd X W [a] t) (hg : Gl X "range" := by rfl) (hs : starEach [a] X.env = [(false, eval a X.env)] := by rfl) : PId X W tg (.Call (.Name "range" p) [a] [] pos) (dItR t) := PI.imp (pi_range1 hg hm h hs) low_itR
theorem iR2 {tg : Expr} {t : DA} (hm : X.mg "range" = none) (h : PAd X W [a, b] t) (hg : Gl X "range" := by rfl) (hs : starEach [a, b] X.env = [(false, eval a X.env), (false, eval b X.env)] := by rfl) (hs2 : starEach [b] X.env = [(false, eval b X.env)] := by rfl) :
    PId X W tg (.Call (.Name "range" p) [a, b] [] pos) (dItR2 t) := PI.imp (pi_range2 hg hm h hs hs2) low_itR2
theorem sfor {tg iter : Expr} {g : DG} {it : DI} (hp : PassesOwn (model X.prog X.w) X.A X.env X.xe) (hi : PId X W tg iter it) (hg : PGd X tg g) (hb : PBd X W ss t) (hc : X.calm = true := by rfl)
    (hs : ∀ x, foldedSetIterable iter X.env x = pure x := by intro _; rfl) : PSd X W (.For tg iter ss [] pos) (dFor it g t) := PS.imp (ps_for hp hc hi hg hb hs) lowS_for
abbrev PTsd (X : Cx) (ifs : List Expr) (t : DT) : Prop := PTs X ifs (lowT X.K t W0)
theorem tsnil : PTsd X [] dYes := ⟨fun pins s σ H Q I h => pts_nil.run pins s σ H Q I (by
  obtain ⟨Δ, st, I, ok, ex, wd, sl, h, c, cx⟩ := h
  exact c _ _ _ _ h wd (Stp.refl _ _ _))⟩
theorem tsone {tt : DT} (h : PTd X W0 c tt) : PTsd X [c] tt := pts_one h
theorem dlc {elt tg iter : Expr} {ifs : List Expr} {scope : Scope} (own : List (Str × Nat)) {it : DI} {g : DG} {tt : DT} (hN : X.N.Nodup) (hi : PId X W tg iter it) (ok : BlkOk X.N X.env.scope scope own)
    (hg : ∀ (s : Shared) (H : Hp) (C : Addr) (cl : List (Str × Addr)) (fp : List Addr), PGw (X.blk s H scope (compEnvC scope cl C X.env) fp) (own.map (·.2)) tg g) (ht : ∀ (s : Shared) (H : Hp) (C : Addr) (cl : List (Str × Addr)) (fp : List Addr), PTsd (X.blk s H scope (compEnvC scope cl C X.env) fp) ifs tt)
    (he : ∀ (s : Shared) (H : Hp) (C : Addr) (cl : List (Str × Addr)) (fp : List Addr), PEd (X.blk s H scope (compEnvC scope cl C X.env) fp) W0 elt te) (hc : X.calm = true := by rfl) (hs : ∀ x, foldedSetIterable iter X.env x = pure x := by intro _; rfl) :
    PEd X W (.ListComp elt [⟨tg, iter, ifs, 0⟩] scope pos) (dLc it g tt te (own.map (·.2))) := PE.imp (pe_lc hc hN hi ok hg ht he hs) low_lc
end
end DD
namespace DD
open PySem PySem.Spec PyProof.Rows L2
/-- raise X('..'): no fields -/
def dRaise0 (C : Addr) : DS := fun Δ st N => N.ex ⟨C, []⟩ Δ st
/-- raise X(e): one field -/
def dRaise1 (C : Addr) (f : Str) (ta : DA) : DS := fun Δ st N => ta Δ st (fun xs st1 => match xs with
  | [.dat d] => N.ex ⟨C, [(f, d)]⟩ Δ st1
  | _ => False) (exAt N Δ)
/-- what an exception's __init__ with one store promises -/
def spX1 (f : Str) (C : Addr) : Sp := fun vs H Q _ => ∃ a v, vs = [.ref a, v] ∧ H a = some (exo a C none) ∧ ∀ dx, H dx = none → dx ≠ a → Q .non (upd (upd H dx (exd dx [(f, v)])) a (exo a C (some dx)))
section
variable {K : PySem.W.Frag} {W : WX} {st : Store} {I H : Hp}
theorem lowS_raise0 {C : Addr} : ∀ D σ H, lowS K (dRaise0 C) W D σ H → W (.ref C) none σ H := by
  rintro D σ H ⟨Δ, st, I, N, wd, sl, h, e⟩
  exact e.ex _ _ _ _ _ _ _ _ h wd (Stp.refl _ _ _) sl ⟨rfl, .inl ⟨rfl, rfl⟩⟩
theorem lowS_raise1 {C : Addr} {f : Str} {ta : DA} : ∀ D σ H, lowS K (dRaise1 C f ta) W D σ H → tMkO C (spX1 f C) [] (lowA K ta W) σ H fun cls d H' => W cls d σ H' := by
  rintro D σ H ⟨Δ, st, I, N, wd, sl, h, e⟩
  refine lowA_go wd sl h (fun xs st1 vs I1 H1 h1 w1 s1 i1 => ?_) (cx_of sl e)
  split at h1
  · rename_i d
    obtain ⟨v, rfl, iv⟩ := one_of rfl i1
    refine ⟨by show 1 ≤ 1000; decide, fun a ha => ⟨a, v, rfl, upd_same, fun dx hdx ne => ⟨rfl, dx, _, upd_same, by rw [upd_ne ne, upd_same], ?_, ?_⟩⟩⟩
    · rwa [upd_ne ne] at hdx
    · rw [upd_ne ne] at hdx
      have he : upd (del (upd (upd (upd H1 a (exo a C none)) dx (exd dx [(f, v)])) a (exo a C (some dx))) a) dx (.xd [(f, v)]) = upd H1 dx (.xd [(f, v)]) := by
        funext b
        by_cases z : b = dx
        · rw [z, upd_same, upd_same]
        · rw [upd_ne z, upd_ne z]
          by_cases z2 : b = a
          · rw [z2, del_same, ha]
          · rw [del_ne z2, upd_ne z2, upd_ne z, upd_ne z2]
      rw [he]
      obtain ⟨w2, s2⟩ := new_known (o := .xd [(f, v)]) w1 hdx
      have ix : Ex I1 (upd I1 dx (.xd [(f, v)])) := Ex.new (w1.sub.none hdx)
      cases iv with
      | dat hd => exact e.ex _ _ _ _ _ _ _ _ h1 w2 (s1.trans s2) (sl.mono (s1.ii.trans ix)) ⟨rfl, .inr ⟨List.cons_ne_nil _ _, dx, _, rfl, upd_same, .cons (hd.mono ix) .nil⟩⟩
  · exact h1.elim
end
section
variable {X : Cx} {W : WX} {e o : Expr} {es : List Expr} {te to : DE} {pos p p2 pos2 : Pos}
theorem sraise0 {C : Addr} {x m : Str} {j : Nat} {bmB : List Value} {B newId initId : String} (F : ExcBaseFacts B newId initId bmB) (q : PySem.W.excIn X.K C bmB newId = true) (gC : X.mg x = some (.ref C)) (kC : PySem.W.keepIn X.K (.ref C) = true) (r : Raises X (.ref C)) (tk : Takes X W)
    (hc : X.calm = true := by rfl) (hg : Gl X x := by rfl) (hdb : (x == ("__debug__" : Str)) = false := by decide) : PSd X W (.Raise (some (.Call (.Name x p) [.Constant (.str m) j p2] [] pos)) none pos2) (dRaise0 C) :=
  PS.imp (ps_raise hc tk (pmk_own F q gC kC r hg hdb)) lowS_raise0
theorem sraise1 {C fI : Addr} {x f : Str} {k : Nat} {fd : FuncData} {ps : List Str} {ta : DA} (T : OexC X.K C) (iC : PySem.W.findIn X.K (.ref C) "__init__" = some (some (.ref fI))) (tI : PySem.W.typeIn X.K (.ref fI) = some (.type "function"))
    (F1 : FnOk X.prog X.w X.K X.mg X.base CX0 k fI fd ps (spX1 f C)) (hr : Room (k + 1) X.A) (hb : Binds X.K fd ps []) (hm : X.mg x = some (.ref C)) (tk : Takes X W) (ha : PAd X W (e :: es) ta) (hc : X.calm = true := by rfl) (hg : Gl X x := by rfl)
    (hdb : (x == ("__debug__" : Str)) = false := by decide) (he : starEach (e :: es) X.env = (false, eval e X.env) :: starEach es X.env := by rfl) (hpl : (backTo pos (starEach es X.env)).any (·.1) = false := by rfl) :
    PSd X W (.Raise (some (.Call (.Name x p) (e :: es) [] pos)) none pos2) (dRaise1 C f ta) :=
  PS.imp (ps_raise hc tk (pmk_oex T iC tI F1 hr hb .nil (fun _ _ _ _ _ _ _ h => h.elim) hg hm ha hdb he hpl)) fun D σ H h => lowS_raise1 D σ H h
end
/-- such an __init__ -/
theorem ok_x1 {P : Program} {w : World} {K : PySem.W.Frag} {mg : Str → Option Value} {base : Heap} {qual : Str} {st : Stmt} {fI C : Addr} {fd : FuncData} {x f : Str} (F : Fun K "__init__" qual st fI fd) (S : FnScope ["self", x] ["self", x] (defScope st)) (T : OexC K C) (hno : PySem.W.findIn K (.ref C) f = some none)
    (hd : ∀ (cdv : Value) (A : Around) (outer : List Env) (s : Shared) (H : Hp) (E : XK), PSs (cxOf CX0 P w K mg base ["self", x] qual (defScope st) fI cdv A outer s H E).nox (defBody st) (tOst K f (tVar 0) (tVar 1))) : FnOk P w K mg base CX0 1 fI fd ["self", x] (spX1 f C) := by
  refine F.ok S (fun vs H Q E h => ?_) (fun cdv A outer s H vs Q E hr h => ?_)
  · obtain ⟨a, v, rfl, _⟩ := h
    rfl
  · obtain ⟨a, v, rfl, ha, k⟩ := h
    exact ⟨_, hd cdv A outer s H E, v, rfl, .ref a, rfl, a, C, rfl, T, hno, .inl ⟨ha, k⟩⟩
/-- the suite's wishes: nothing is raised there -/
def calmN (N : DN) : DN := { N with ex := fun _ _ _ => False }
theorem ends_calm {K : PySem.W.Frag} {W W' : WX} {st : Store} {I H : Hp} {N : DN} {D : Ends} (e : Ends_ K st I H N W D) : Ends_ K st I H (calmN N) W' D := ⟨e.nx, e.rt, e.bk, e.ct, fun _ _ _ _ _ _ _ _ z => z.elim⟩
def tMethAt (C : Addr) (m : Str) (sp : Sp) (dvs : List V) (E : L2.St → XK) (ta : TE) (t : TA) : TE := fun σ H Q => ta σ H fun x H1 => ∃ a dx fs, x = .ref a ∧ H1 a = some (.ins C dx fs) ∧ fs.lookup m = none ∧ t σ H1 fun vs H2 => sp (x :: (vs ++ dvs)) H2 Q (E σ)
section
variable {X : Cx} {CX : CXT} {k : Nat} {f C : Addr} {fd : FuncData} {ps : List Str} {sp : Sp} {dvs : List V} {dus : List Value} {E : L2.St → XK} {x m : Str} {p apos pos : Pos} {e o : Expr} {es : List Expr} {ta : TE} {t : TA}
theorem pe_methAt {pl : Sem Bool} (he : PE X o ta) (c : Cls X.K C) (hm : Meth X.K C m f) (F : FnOk X.prog X.w X.K X.mg X.base CX k f fd ps sp) (hr : Room k X.A) (hb : Binds X.K fd ps dus) (hd : Vals dvs dus) (hx : ∀ σ, PassesAt CX X σ (E σ)) (ha : PA X (e :: es) t)
    (hst : starEach (e :: es) X.env = (false, eval e X.env) :: starEach es X.env := by rfl) (hpl : (backTo pos (starEach es X.env)).any (·.1) = false := by rfl)
    (ht : eval (.Call (.Attribute o m apos) (e :: es) [] pos) X.env = (do
      let ov ← eval o X.env
      standAt apos.atName
      let (f, first) ← holding [ov] (getMethod ov m pl)
      callWith pos f first (backTo pos (starEach (e :: es) X.env)) (backToKw pos (keywordEach [] X.env))) := by rfl) :
    PE X (.Call (.Attribute o m apos) (e :: es) [] pos) (tMethAt C m sp dvs E ta t) := by
  constructor
  intro pins s σ H Q I h
  apply PySem.W.methodCall_KW (pl := pl) _ ht
  apply thn (he.run pins s σ H _ I h)
  rintro u s1 ⟨y, H1, I1, ry, a, dx, fs, ey, ea, l, q⟩
  subst ey
  have eu : u = Value.ref a := ry
  subst eu
  apply getmeth_ok I1 ea c hm l
  apply PySem.W.callWith_K (first := [.ref a]) (h₀ := X.base) I.ok.mod.kin hm.kp _ hst hpl
  apply thn (ha.run pos pins s1 σ H1 _ I1 q)
  rintro us s2 ⟨vs, H2, I2, r, q2⟩
  exact ⟨I2.kIn, run_fnSD (us := .ref a :: us) (vs := .ref a :: vs) F hr hb hd (hx σ) I2 (.cons rfl r) q2⟩
end
def dMeth (C : Addr) (m : Str) (ct : Ct) (dds : List Dt) (te : DE) (t : DA) : DE := fun Δ st ok ex => te Δ st (fun s st1 => match s with
  | .dat (.ins D fs) => D = C ∧ fs.lookup m = none ∧ t Δ st1 (fun xs st2 => ct (.dat (.ins D fs) :: (xs ++ dds.map Sv.dat)) st2 ok ex) ex
  | .own p => (∃ (j : Nat) (fs : List (Str × Sv)), st1[j]? = some (p, Ob.ins C fs) ∧ fs.lookup m = none) ∧ t Δ st1 (fun xs st2 => ct (.own p :: (xs ++ dds.map Sv.dat)) st2 ok ex) ex
  | _ => False) ex
theorem isDf_none {K : PySem.W.Frag} {I : Hp} {f : Str} : ∀ {ds : List (Str × Dt)} {vs : List (Str × V)}, IsDf K I ds vs → ds.lookup f = none → vs.lookup f = none
  | _, _, .nil, _ => rfl
  | _, _, .cons (k := k) a r, h => by
    rw [List.lookup_cons] at h ⊢
    cases e : f == k with
    | true => rw [e] at h; cases h
    | false => rw [e] at h; exact isDf_none r h
theorem rk_none {K : PySem.W.Frag} {I : Hp} {f : Str} : ∀ {ds : List (Str × Sv)} {vs : List (Str × V)}, Paired (RK K I) ds vs → ds.lookup f = none → vs.lookup f = none
  | _, _, .nil, _ => rfl
  | _, _, .cons (a := (k, s)) (b := (k', v)) a r, h => by
    obtain ⟨e1, e2⟩ := a
    have e1 : k = k' := e1
    subst e1
    rw [List.lookup_cons] at h ⊢
    cases e : f == k with
    | true => rw [e] at h; cases h
    | false => rw [e] at h; exact rk_none r h
theorem low_meth {K : PySem.W.Frag} {W : WX} {C : Addr} {m : Str} {ct : Ct} {dds : List Dt} {dvs : List V} {te : DE} {t : DA} (hd : ∀ I, IsSs K I (dds.map Sv.dat) dvs) : ∀ σ H Q, low K (dMeth C m ct dds te t) W σ H Q → tMethAt C m (lowF K ct) dvs (WE W) (low K te W) (lowA K t W) σ H Q := by
  rintro σ H Q ⟨Δ, st, I, ok, ex, wd, sl, h, c, cx⟩
  refine low_go wd sl h (fun x st1 v I1 H1 h1 w1 s1 i1 => ?_) cx
  cases i1 with
  | own p =>
    obtain ⟨⟨j, fs, hj, hl⟩, h1⟩ := h1
    obtain ⟨u, hu, io⟩ := own_at w1 hj
    cases io with
    | ins hs =>
      refine ⟨p, _, _, rfl, hu, rk_none hs hl, lowA_go w1 (sl.mono s1.ii) h1 (fun xs st2 vs I2 H2 h2 w2 s2 i2 => ?_) (cx.go s1)⟩
      exact ⟨_, st2, I2, ok, ex, w2, .cons (.own p) (paired_app i2 (hd I2)), h2, c.go (s1.trans s2), cx.go (s1.trans s2)⟩
  | dat hd' =>
    cases hd' with
    | ins a b =>
      obtain ⟨rfl, hl, h1⟩ := h1
      refine ⟨_, _, _, rfl, w1.sub.at a (by intro k z; cases z) (by intro k z; cases z), isDf_none b hl, lowA_go w1 (sl.mono s1.ii) h1 (fun xs st2 vs I2 H2 h2 w2 s2 i2 => ?_) (cx.go s1)⟩
      exact ⟨_, st2, I2, ok, ex, w2, .cons (.dat ((IsD.ins a b).mono s2.ii)) (paired_app i2 (hd I2)), h2, c.go (s1.trans s2), cx.go (s1.trans s2)⟩
    | _ => exact h1.elim
theorem dmeth {X : Cx} {W : WX} {te : DE} {pos apos : Pos} {e o : Expr} {es : List Expr} {ct : Ct} {k : Nat} {f C : Addr} {fd : FuncData} {ps : List Str} {m : Str} {dds : List Dt} {dvs : List V} {dus : List Value} {t : DA} {pl : Sem Bool} (c : Cls X.K C) (hm : Meth X.K C m f)
    (F : FnOk X.prog X.w X.K X.mg X.base (L2.CX X.prog X.w) k f fd ps (lowF X.K ct)) (hr : Room k X.A) (hb : Binds X.K fd ps dus) (hd : Vals dvs dus) (hdd : ∀ I, IsSs X.K I (dds.map Sv.dat) dvs) (tk : Takes X W) (he : PEd X W o te) (ha : PAd X W (e :: es) t)
    (hst : starEach (e :: es) X.env = (false, eval e X.env) :: starEach es X.env := by rfl) (hpl : (backTo pos (starEach es X.env)).any (·.1) = false := by rfl)
    (ht : eval (.Call (.Attribute o m apos) (e :: es) [] pos) X.env = (do
      let ov ← eval o X.env
      standAt apos.atName
      let (f, first) ← holding [ov] (getMethod ov m pl)
      callWith pos f first (backTo pos (starEach (e :: es) X.env)) (backToKw pos (keywordEach [] X.env))) := by rfl) :
    PEd X W (.Call (.Attribute o m apos) (e :: es) [] pos) (dMeth C m ct dds te t) := PE.imp (pe_methAt he c hm F hr hb hd (fun σ => passAt tk σ) ha hst hpl ht) (low_meth hdd)
/-- x[i] by one's own __getitem__ -/
def tGetAt (C : Addr) (sp : Sp) (E : L2.St → XK) (ta tb : TE) : TE := fun σ H Q => ta σ H fun x H1 => tb σ H1 fun y H2 => ∃ a dx fs, x = .ref a ∧ H2 a = some (.ins C dx fs) ∧ sp [x, y] H2 Q (E σ)
theorem pe_getAt {X : Cx} {CX : CXT} {k : Nat} {f C : Addr} {fd : FuncData} {ps : List Str} {sp : Sp} {E : L2.St → XK} {pos : Pos} {a b : Expr} {ta tb : TE} (ha : PE X a ta) (hb : PE X b tb) (hs : PySem.W.findIn X.K (.ref C) "__getitem__" = some (some (.ref f))) (hfi : PySem.W.fnIn X.K f = true) (hfn : PySem.W.isFn X.K (.ref f) = true)
    (F : FnOk X.prog X.w X.K X.mg X.base CX k f fd ps sp) (hr : Room (k + 1) X.A) (bb : Binds X.K fd ps []) (hx : ∀ σ, PassesAt CX X σ (E σ)) (hsl : ∀ x i, subscripted b true x i = runValue (.builtin "lifetime.subscript" ⟨[x, i], []⟩) := by with_unfolding_all exact fun _ _ => rfl) :
    PE X (.Subscript a b pos) (tGetAt C sp E ta tb) := by
  constructor
  intro pins s σ H Q I h
  apply Subscript_
  apply binT ha hb I (R := fun x y H2 => ∃ a dx fs, x = .ref a ∧ H2 a = some (.ins C dx fs) ∧ sp [x, y] H2 Q (E σ)) h
  rintro v u s2 x y H2 I2 rx ry ⟨c, dx, fs, ex, ec, q⟩
  subst ex
  have ev : v = Value.ref c := rx
  subst ev
  obtain ⟨mA, O, _⟩ := ins_get I2.hok ec
  obtain ⟨od, J, _⟩ := O.look
  obtain ⟨m, fr⟩ := I2.fr
  refine PySem.W.sub_K fr I.ok.mod.kin J hs hfi hfn ?_ (hsl _ _)
  apply wpAny_call
  have len : ([Value.ref c, u] ++ []).length = ps.length := by rw [← F.len _ _ _ _ q]; rfl
  apply codeAny_mono (F.run X.A.in1 X.stack s2 H2 ⟨[.ref c, u], []⟩ ([.ref c, u] ++ []) [.ref c, y] Q (E σ) hr.in1 I2.env0.in1 (bb _ [.ref c, u] I2.kIn len) (.cons rfl (.cons ry .nil)) q)
  intro res s3 hres
  match res, hres with
  | .error er, z => exact hx σ pins _ _ er s3 I2 z
  | .ok (.ret w'), z => exact I2.after z
  | .ok .next, z => exact False.elim z
  | .ok .brk, z => exact False.elim z
  | .ok .cont, z => exact False.elim z
def dGet (C : Addr) (ct : Ct) (ta tb : DE) : DE := fun Δ st ok ex => ta Δ st (fun x st1 => tb Δ st1 (fun y st2 => match x with
  | .dat (.ins D fs) => D = C ∧ ct [.dat (.ins D fs), y] st2 ok ex
  | _ => False) ex) ex
theorem low_get {K : PySem.W.Frag} {W : WX} {C : Addr} {ct : Ct} {ta tb : DE} : ∀ σ H Q, low K (dGet C ct ta tb) W σ H Q → tGetAt C (lowF K ct) (WE W) (low K ta W) (low K tb W) σ H Q := by
  rintro σ H Q ⟨Δ, st, I, ok, ex, wd, sl, h, c, cx⟩
  refine low_go wd sl h (fun x st1 v I1 H1 h1 w1 s1 i1 => ?_) cx
  refine low_go w1 (sl.mono s1.ii) h1 (fun y st2 u I2 H2 h2 w2 s2 i2 => ?_) (cx.go s1)
  cases i1 with
  | own p => exact h2.elim
  | dat hd =>
    cases hd with
    | ins a b =>
      obtain ⟨rfl, h2⟩ := h2
      have a2 := s2.ii _ _ a
      exact ⟨_, _, _, rfl, w2.sub.at a2 (by intro k z; cases z) (by intro k z; cases z), _, st2, I2, ok, ex, w2, .cons (.dat ((IsD.ins a b).mono s2.ii)) (.cons i2 .nil), h2, c.go (s1.trans s2), cx.go (s1.trans s2)⟩
    | _ => exact h2.elim
theorem dget {X : Cx} {W : WX} {ct : Ct} {k : Nat} {f C : Addr} {fd : FuncData} {ps : List Str} {pos : Pos} {a b : Expr} {ta tb : DE} (hs : PySem.W.findIn X.K (.ref C) "__getitem__" = some (some (.ref f))) (hfi : PySem.W.fnIn X.K f = true) (hfn : PySem.W.isFn X.K (.ref f) = true)
    (F : FnOk X.prog X.w X.K X.mg X.base (L2.CX X.prog X.w) k f fd ps (lowF X.K ct)) (hr : Room (k + 1) X.A) (bb : Binds X.K fd ps []) (tk : Takes X W) (ha : PEd X W a ta) (hb : PEd X W b tb) (hsl : ∀ x i, subscripted b true x i = runValue (.builtin "lifetime.subscript" ⟨[x, i], []⟩) := by with_unfolding_all exact fun _ _ => rfl) :
    PEd X W (.Subscript a b pos) (dGet C ct ta tb) := PE.imp (pe_getAt ha hb hs hfi hfn F hr bb (fun σ => passAt tk σ) hsl) low_get
end DD
namespace DD
open PySem PySem.Spec PyProof.Rows L2
theorem fn_lowD {P : Program} {w : World} {K : PySem.W.Frag} {mg : Str → Option Value} {base : Heap} {x qual : Str} {st : Stmt} {f : Addr} {fd : FuncData} {N ps : List Str} {k : Nat} {ct : Ct} {dvs : List V} (t : DS) (F : FunD K x qual (defArgs st) (defBody st) (defScope st) dvs [] f fd) (S : FnScope N ps (defScope st)) (len : ∀ ss st ok ex, ct ss st ok ex → ss.length = ps.length)
    (hsem : ∀ ss st ok ex, ct ss st ok ex → t (ss ++ List.replicate (N.length - ss.length) .un) st (endsOf ok ex))
    (hbody : ∀ (cdv : Value) (A : Around) (outer : List Env) (s : Shared) (H : Hp) (E : XK), Room k (A.deeper (envOfC qual (defScope st) s.heap.objs.size f cdv)) → Takes (cxD P w K mg base N qual (defScope st) f cdv A outer s H E) (WF E) →
      PassesOwn (model P w) (cxD P w K mg base N qual (defScope st) f cdv A outer s H E).A (cxD P w K mg base N qual (defScope st) f cdv A outer s H E).env (cxD P w K mg base N qual (defScope st) f cdv A outer s H E).xe →
      PBd (cxD P w K mg base N qual (defScope st) f cdv A outer s H E) (WF E) (defBody st) t) :
    FnOk P w K mg base (L2.CX P w) (k + 1) f fd ps (lowF K ct) := by
  refine F.ok S (fun vs H Q E h => ?_) (fun cdv A outer s H vs Q E hr h => ?_)
  · obtain ⟨ss, st, I, ok, ex, wd, iv, h, _⟩ := h
    rw [← paired_len iv]
    exact len _ _ _ _ h
  · obtain ⟨ss, st0, I, ok, ex, wd, iv, h, c, cx⟩ := h
    refine ⟨_, hbody cdv A outer s H E hr (takes_of rfl rfl rfl rfl) (passes_of rfl), ?_⟩
    refine lowS_go wd (sl_start iv) (hsem _ _ _ _ h) ⟨?_, ?_, ?_, ?_, ?_⟩
    · rintro Δ st' σ' I' H' ⟨st'', hs, h'⟩ w' s' l'
      exact c _ _ _ _ _ h' (wd_drop w' hs) (stp_drop s' hs) (.dat .non)
    · rintro s st' v I' H' ⟨s', st'', hf, h'⟩ w' sp i'
      obtain ⟨I2, w2, s2, i2⟩ := fin_ok w' sp i' hf
      exact c _ _ _ _ _ h' w2 s2 i2
    · intro _ _ _ _ _ h'
      exact h'.elim
    · intro _ _ _ _ _ h'
      exact h'.elim
    · rintro x Δ' st' cls d σ' I' H' ⟨st'', hs, h'⟩ w' sp l' xi
      exact cx x st'' cls d I' H' h' (wd_drop w' hs) (stp_drop sp hs) xi
mutual
inductive PyOf : Dt → PyData → Prop
  | non : PyOf .non .none
  | bl (b : Bool) : PyOf (.bl b) (.bool b)
  | int (i : Int) : PyOf (.int i) (.int i)
  | str (x : Str) : PyOf (.str x) (.str x)
  | lst {ds : List Dt} {ps : List PyData} : PyOfs ds ps → PyOf (.lst ds) (.list ps)
  | tup {ds : List Dt} {ps : List PyData} : PyOfs ds ps → PyOf (.tup ds) (.tuple ps)
inductive PyOfs : List Dt → List PyData → Prop
  | nil : PyOfs [] []
  | cons {d : Dt} {p : PyData} {ds : List Dt} {ps : List PyData} : PyOf d p → PyOfs ds ps → PyOfs (d :: ds) (p :: ps)
end
mutual
theorem PyOf.dp {K : PySem.W.Frag} {st : Store} {I H : Hp} (w : Wd K st I H) : ∀ {d : Dt} {p : PyData} {v : V}, PyOf d p → IsD K I d v → Dp K H v p
  | _, _, _, .non, .non => .non
  | _, _, _, .bl b, .bl _ => .bl b
  | _, _, _, .int i, .int _ => .int i
  | _, _, _, .str x, .str _ => .str x
  | _, _, _, .lst h, .lst a b => .lst (w.sub.sl (.inl (.inl a))) (PyOfs.dp w h b)
  | _, _, _, .tup h, .tup a b => .tup (w.sub.st a.st) (PyOfs.dp w h b)
theorem PyOfs.dp {K : PySem.W.Frag} {st : Store} {I H : Hp} (w : Wd K st I H) : ∀ {ds : List Dt} {ps : List PyData} {vs : List V}, PyOfs ds ps → IsDs K I ds vs → DpAll K H vs ps
  | _, _, _, .nil, .nil => .nil
  | _, _, _, .cons a b, .cons c d => .cons (PyOf.dp w a c) (PyOfs.dp w b d)
end
theorem PyOfs.map {α : Type} {f : α → Dt} {g : α → PyData} (h : ∀ a, PyOf (f a) (g a)) : ∀ xs : List α, PyOfs (xs.map f) (xs.map g)
  | [] => .nil
  | a :: xs => .cons (h a) (PyOfs.map h xs)
def gEqP (neg : Bool) : G2 := fun x y st ok => match x, y with
  | .dat d, .dat e => ∃ p q, PyOf d p ∧ PyOf e q ∧ SeqAt.shaped p = true ∧ SeqAt.shaped q = true ∧ ok (.dat (.bl (if neg then !PyData.eqv p q else PyData.eqv p q))) st
  | _, _ => False
theorem lr_eqP {K : PySem.W.Frag} : LR2 K (rEqD K) (gEqP false) := by
  intro x y st I H ok Q v w wd ix iy h c
  cases ix with
  | own p => exact h.elim
  | dat hx =>
    cases iy with
    | own p => exact h.elim
    | dat hy =>
      obtain ⟨p, q, h1, h2, h3, h4, h⟩ := h
      exact ⟨p, q, h1.dp wd hx, h2.dp wd hy, h3, h4, c.now wd h (.dat (.bl _))⟩
theorem lr_neP {K : PySem.W.Frag} : LR2 K (rNeD K) (gEqP true) := by
  intro x y st I H ok Q v w wd ix iy h c
  cases ix with
  | own p => exact h.elim
  | dat hx =>
    cases iy with
    | own p => exact h.elim
    | dat hy =>
      obtain ⟨p, q, h1, h2, h3, h4, h⟩ := h
      exact ⟨p, q, h1.dp wd hx, h2.dp wd hy, h3, h4, c.now wd h (.dat (.bl _))⟩
/-- x in a tuple | list of data -/
def rInP (K : PySem.W.Frag) (neg : Bool) : R2 := fun x y H Q => ∃ d ds, Dp K H x d ∧ (Dp K H y (.tuple ds) ∨ Dp K H y (.list ds)) ∧ SeqAt.shaped d = true ∧ (PyData.canLayAll0 ds = true) ∧ Q (.bl (if neg then !ds.any fun z => PyData.eqv z d else ds.any fun z => PyData.eqv z d)) H
theorem op_inP {X : Cx} (hu : X.A.units + 65 < cLine) : OpR X (compareOp .In) (rInP X.K false) := by
  intro pins s σ H x y v u Q I rx ry h
  obtain ⟨d, ds, hd, he, sd, se, q⟩ := h
  obtain ⟨as, r1⟩ := Dp.reads I d x v hd rx
  have room : X.A.units + 1 + min (PyData.depthAll ds) d.depth < cLine := by
    have l1 := SeqAt.depth_of_shaped sd
    have l2 : min (PyData.depthAll ds) d.depth ≤ d.depth := Nat.min_le_right _ _
    omega
  rcases he with he | he
  · obtain ⟨bs, r2⟩ := Dp.reads I (.tuple ds) y u he ry
    exact SeqAt.in_tuple_reads r2 r1 se (SeqAt.canLay_of_shaped sd) room ⟨.bl _, H, I, rfl, q⟩
  · obtain ⟨bs, r2⟩ := Dp.reads I (.list ds) y u he ry
    exact SeqAt.in_list_reads r2 r1 se (SeqAt.canLay_of_shaped sd) room ⟨.bl _, H, I, rfl, q⟩
theorem op_niP {X : Cx} (hu : X.A.units + 65 < cLine) : OpR X (compareOp .NotIn) (rInP X.K true) := by
  intro pins s σ H x y v u Q I rx ry h
  obtain ⟨d, ds, hd, he, sd, se, q⟩ := h
  obtain ⟨as, r1⟩ := Dp.reads I d x v hd rx
  have room : X.A.units + 1 + min (PyData.depthAll ds) d.depth < cLine := by
    have l1 := SeqAt.depth_of_shaped sd
    have l2 : min (PyData.depthAll ds) d.depth ≤ d.depth := Nat.min_le_right _ _
    omega
  rcases he with he | he
  · obtain ⟨bs, r2⟩ := Dp.reads I (.tuple ds) y u he ry
    exact SeqAt.notIn_tuple_reads r2 r1 se (SeqAt.canLay_of_shaped sd) room ⟨.bl _, H, I, rfl, q⟩
  · obtain ⟨bs, r2⟩ := Dp.reads I (.list ds) y u he ry
    exact SeqAt.notIn_list_reads r2 r1 se (SeqAt.canLay_of_shaped sd) room ⟨.bl _, H, I, rfl, q⟩
def gInP (neg : Bool) : G2 := fun x y st ok => match x, y with
  | .dat d, .dat (.tup es) => ∃ p qs, PyOf d p ∧ PyOfs es qs ∧ SeqAt.shaped p = true ∧ PyData.canLayAll0 qs = true ∧ ok (.dat (.bl (if neg then !qs.any fun z => PyData.eqv z p else qs.any fun z => PyData.eqv z p))) st
  | .dat d, .dat (.ktu es) => ∃ p qs, PyOf d p ∧ PyOfs es qs ∧ SeqAt.shaped p = true ∧ PyData.canLayAll0 qs = true ∧ ok (.dat (.bl (if neg then !qs.any fun z => PyData.eqv z p else qs.any fun z => PyData.eqv z p))) st
  | .dat d, .dat (.lst es) => ∃ p qs, PyOf d p ∧ PyOfs es qs ∧ SeqAt.shaped p = true ∧ PyData.canLayAll0 qs = true ∧ ok (.dat (.bl (if neg then !qs.any fun z => PyData.eqv z p else qs.any fun z => PyData.eqv z p))) st
  | .dat d, .own a => ∃ (j : Nat) (ys : List Sv) (es : List Dt) (p : PyData) (qs : List PyData), st[j]? = some (a, Ob.lst ys) ∧ AllD ys es ∧ PyOf d p ∧ PyOfs es qs ∧ SeqAt.shaped p = true ∧ PyData.canLayAll0 qs = true ∧ ok (.dat (.bl (if neg then !qs.any fun z => PyData.eqv z p else qs.any fun z => PyData.eqv z p))) st
  | _, _ => False
theorem lr_inP {K : PySem.W.Frag} {neg : Bool} : LR2 K (rInP K neg) (gInP neg) := by
  intro x y st I H ok Q v w wd ix iy h c
  cases ix with
  | own p => cases iy with
    | own q => exact h.elim
    | dat hy => cases hy <;> exact h.elim
  | dat hx =>
    cases iy with
    | own a =>
      obtain ⟨j, ys, es, p, qs, hj, ha, h1, h2, h3, h4, h⟩ := h
      obtain ⟨o, ho, io⟩ := own_at wd hj
      cases io with
      | lst hs => exact ⟨p, qs, h1.dp wd hx, .inr (.lst (.inl (.inl ho)) (h2.dp wd (isDs_of ha hs))), h3, h4, c.now wd h (.dat (.bl _))⟩
    | dat hy =>
      cases hy with
      | tup a b =>
        obtain ⟨p, qs, h1, h2, h3, h4, h⟩ := h
        exact ⟨p, qs, h1.dp wd hx, .inl (.tup (wd.sub.st a.st) (h2.dp wd b)), h3, h4, c.now wd h (.dat (.bl _))⟩
      | ktu a b =>
        obtain ⟨p, qs, h1, h2, h3, h4, h⟩ := h
        exact ⟨p, qs, h1.dp wd hx, .inl (.tup (wd.sub.st a) (h2.dp wd b)), h3, h4, c.now wd h (.dat (.bl _))⟩
      | lst a b =>
        obtain ⟨p, qs, h1, h2, h3, h4, h⟩ := h
        exact ⟨p, qs, h1.dp wd hx, .inr (.lst (wd.sub.sl (.inl (.inl a))) (h2.dp wd b)), h3, h4, c.now wd h (.dat (.bl _))⟩
      | _ => exact h.elim
section
variable {κ α β : Type} [DecidableEq κ]
/-- what is at a key | the dict with an item put -/
def getD (kvs : List (κ × α)) (k : κ) : Option α := (kvs.find? fun kv => decide (kv.1 = k)).map (·.2)
def putD (kvs : List (κ × α)) (k : κ) (a : α) : List (κ × α) := if (kvs.any fun kv => decide (kv.1 = k)) = true then kvs.map (fun kv => if kv.1 = k then (kv.1, a) else kv) else kvs ++ [(k, a)]
end
theorem getD_V {κ : Type} [DecidableEq κ] (kvs : List (κ × V)) (k : κ) : valV kvs k = getD kvs k := rfl
section
variable {K : PySem.W.Frag} {I : Hp} {κ : Type} [DecidableEq κ]
theorem rk_get {k : κ} : ∀ {xs : List (κ × Sv)} {vs : List (κ × V)}, Paired (RK K I) xs vs → (∀ s, getD xs k = some s → ∃ v, getD vs k = some v ∧ IsS K I s v) ∧ (getD xs k = none → getD vs k = none)
  | _, _, .nil => ⟨fun s h => (by cases h), fun _ => rfl⟩
  | _, _, .cons (a := (j, s)) (b := (j', v)) (l₁ := xs) (l₂ := vs) r t => by
    obtain ⟨e1, e2⟩ := r
    have e1 : j = j' := e1
    subst e1
    have ih := rk_get (k := k) t
    by_cases e : j = k
    · have g1 : getD ((j, s) :: xs) k = some s := by unfold getD; rw [List.find?_cons_of_pos (by simpa using e)]; rfl
      have g2 : getD ((j, v) :: vs) k = some v := by unfold getD; rw [List.find?_cons_of_pos (by simpa using e)]; rfl
      rw [g1, g2]
      exact ⟨fun s' h => (by cases h; exact ⟨v, rfl, e2⟩), fun h => (by cases h)⟩
    · have g1 : getD ((j, s) :: xs) k = getD xs k := by unfold getD; rw [List.find?_cons_of_neg (by simpa using e)]
      have g2 : getD ((j, v) :: vs) k = getD vs k := by unfold getD; rw [List.find?_cons_of_neg (by simpa using e)]
      rw [g1, g2]
      exact ih
theorem rk_any {k : κ} : ∀ {xs : List (κ × Sv)} {vs : List (κ × V)}, Paired (RK K I) xs vs → (xs.any fun kv => decide (kv.1 = k)) = vs.any fun kv => decide (kv.1 = k)
  | _, _, .nil => rfl
  | _, _, .cons (a := (j, s)) (b := (j', v)) r t => by
    obtain ⟨e1, e2⟩ := r
    have e1 : j = j' := e1
    subst e1
    rw [List.any_cons, List.any_cons, rk_any t]
theorem rk_map {k : κ} {s : Sv} {v : V} (h : IsS K I s v) : ∀ {xs : List (κ × Sv)} {vs : List (κ × V)}, Paired (RK K I) xs vs → Paired (RK K I) (xs.map fun kv => if kv.1 = k then (kv.1, s) else kv) (vs.map fun kv => if kv.1 = k then (kv.1, v) else kv)
  | _, _, .nil => .nil
  | _, _, .cons (a := (j, s')) (b := (j', v')) r t => by
    obtain ⟨e1, e2⟩ := r
    have e1 : j = j' := e1
    subst e1
    rw [List.map_cons, List.map_cons]
    refine .cons ?_ (rk_map h t)
    by_cases e : j = k
    · rw [if_pos e, if_pos e]
      exact ⟨rfl, h⟩
    · rw [if_neg e, if_neg e]
      exact ⟨rfl, e2⟩
theorem rk_putD {k : κ} {s : Sv} {v : V} (h : IsS K I s v) {xs : List (κ × Sv)} {vs : List (κ × V)} (r : Paired (RK K I) xs vs) : Paired (RK K I) (putD xs k s) (putK vs k v) := by
  unfold putD putK
  rw [rk_any r]
  split
  · exact rk_map h r
  · exact paired_app r (.cons ⟨rfl, h⟩ .nil)
end
theorem rk_of : ∀ {K : PySem.W.Frag} {I : Hp} {ds : List (Key × Dt)} {vs : List (Key × V)}, IsDk K I ds vs → Paired (RK K I) (ds.map fun kv => (kv.1, Sv.dat kv.2)) vs
  | _, _, _, _, .nil => .nil
  | _, _, _, _, .cons a b => .cons ⟨rfl, .dat a⟩ (rk_of b)
theorem rkt_of : ∀ {K : PySem.W.Frag} {I : Hp} {ds : List (List Key × Dt)} {vs : List (List Key × V)}, IsDt K I ds vs → Paired (RK K I) (ds.map fun kv => (kv.1, Sv.dat kv.2)) vs
  | _, _, _, _, .nil => .nil
  | _, _, _, _, .cons a b => .cons ⟨rfl, .dat a⟩ (rkt_of b)
/-- a key -/
def keyD : Dt → Option Key
  | .int i => some (.inl i)
  | .str x => some (.inr x)
  | _ => none
/-- what is done with a dict's items -/
def withK (x : Sv) (st : Store) (k : List (Key × Sv) → Prop) : Prop := match x with
  | .dat (.dic ds) => k (ds.map fun kv => (kv.1, Sv.dat kv.2))
  | .own p => ∃ (j : Nat) (xs : List (Key × Sv)), st[j]? = some (p, Ob.dic xs) ∧ k xs
  | _ => False
theorem withK_rd {K : PySem.W.Frag} {st : Store} {I H : Hp} {x : Sv} {v : V} {k : List (Key × Sv) → Prop} (w : Wd K st I H) (i : IsS K I x v) (h : withK x st k) : ∃ a vs xs, v = .ref a ∧ Rd H a (.dK vs) ∧ Paired (RK K I) xs vs ∧ k xs := by
  cases i with
  | own p =>
    obtain ⟨j, xs, hj, hk⟩ := h
    obtain ⟨o, ho, io⟩ := own_at w hj
    cases io with
    | dic hs => exact ⟨p, _, xs, rfl, .inl ho, hs, hk⟩
  | dat hd =>
    cases hd with
    | dic h1 h2 => exact ⟨_, _, _, rfl, w.sub.rd h1, rk_of h2, h⟩
    | _ => exact h.elim
theorem key_is {K : PySem.W.Frag} {I : Hp} {d : Dt} {v : V} {k : Key} (h : IsD K I d v) (e : keyD d = some k) : v = kV k := by
  cases h <;> first | (cases e; done) | (cases e; rfl)
/-- d[k], there -/
def dDGet (td ty : DE) : DE := fun Δ st ok ex => td Δ st (fun x st1 => ty Δ st1 (fun y st2 => match y with
  | .dat dy => withK x st2 fun xs => ∃ k s, keyD dy = some k ∧ getD xs k = some s ∧ ok s st2
  | _ => False) ex) ex
def dDIn (neg : Bool) (ty td : DE) : DE := fun Δ st ok ex => ty Δ st (fun y st1 => td Δ st1 (fun x st2 => match y with
  | .dat dy => withK x st2 fun xs => ∃ k, keyD dy = some k ∧ ok (.dat (.bl (if neg then !(getD xs k).isSome else (getD xs k).isSome))) st2
  | _ => False) ex) ex
/-- d[k] = v, d of one's own -/
def dDPut (td ty tv : DE) : DS := fun Δ st N => tv Δ st (fun v st1 => td Δ st1 (fun x st2 => ty Δ st2 (fun y st3 => match x, y with
  | .own p, .dat dy => ∃ (j : Nat) (xs : List (Key × Sv)) (k : Key), st3[j]? = some (p, Ob.dic xs) ∧ keyD dy = some k ∧ xs.length < sizeLine ∧ N.nx Δ (st3.set j (p, .dic (putD xs k v)))
  | _, _ => False) (exAt N Δ)) (exAt N Δ)) (exAt N Δ)
/-- {} of one's own -/
def dDNew : DE := fun _ st ok _ => ∀ p, p ∉ keys st → ok (.own p) ((p, .dic []) :: st)
section
variable {K : PySem.W.Frag} {W : WX} {st : Store} {I H : Hp}
theorem low_dget {td ty : DE} : ∀ σ H Q, low K (dDGet td ty) W σ H Q → tDGet (low K td W) (low K ty W) σ H Q := by
  rintro σ H Q ⟨Δ, st, I, ok, ex, wd, sl, h, c, cx⟩
  refine low_go wd sl h (fun x st1 v I1 H1 h1 w1 s1 i1 => ?_) cx
  refine low_go w1 (sl.mono s1.ii) h1 (fun y st2 u I2 H2 h2 w2 s2 i2 => ?_) (cx.go s1)
  cases i2 with
  | own p => exact h2.elim
  | dat hy =>
    obtain ⟨a, vs, xs, rfl, hd, hp, k, s, hk, hg, h2⟩ := withK_rd w2 (i1.mono s2.ii) h2
    obtain ⟨v', hv, iv⟩ := (rk_get hp).1 s hg
    have e := key_is hy hk
    subst e
    exact ⟨a, v', rfl, .inl ⟨vs, k, hd, rfl, by rw [getD_V]; exact hv.symm⟩, (c.go (s1.trans s2)).now w2 h2 iv⟩
theorem low_dni {ty td : DE} : ∀ σ H Q, low K (dDIn true ty td) W σ H Q → tDNotIn (low K ty W) (low K td W) σ H Q := by
  rintro σ H Q ⟨Δ, st, I, ok, ex, wd, sl, h, c, cx⟩
  refine low_go wd sl h (fun y st1 u I1 H1 h1 w1 s1 i1 => ?_) cx
  refine low_go w1 (sl.mono s1.ii) h1 (fun x st2 v I2 H2 h2 w2 s2 i2 => ?_) (cx.go s1)
  cases i1 with
  | own p => exact h2.elim
  | dat hy =>
    obtain ⟨a, vs, xs, rfl, hd, hp, k, hk, h2⟩ := withK_rd w2 i2 h2
    have e := key_is hy hk
    subst e
    have g : (getD vs k).isSome = (getD xs k).isSome := by
      cases q : getD xs k with
      | none => exact congrArg Option.isSome ((rk_get hp).2 q)
      | some s =>
        obtain ⟨v', hv, _⟩ := (rk_get hp).1 s q
        rw [hv]
        rfl
    exact ⟨a, _, rfl, .inl ⟨vs, k, hd, rfl, rfl⟩, by rw [getD_V, g]; exact (c.go (s1.trans s2)).now w2 h2 (.dat (.bl _))⟩
theorem lowS_dput {td ty tv : DE} : ∀ D σ H, lowS K (dDPut td ty tv) W D σ H → sDPut (low K td W) (low K ty W) (low K tv W) D σ H := by
  rintro D σ H ⟨Δ, st, I, N, wd, sl, h, e⟩
  refine low_go wd sl h (fun v st1 vv I1 H1 h1 w1 s1 i1 => ?_) (cx_of sl e)
  refine low_go w1 (sl.mono s1.ii) h1 (fun o st2 ov I2 H2 h2 w2 s2 i2 => ?_) (cx_of (sl.mono s1.ii) (e.go s1))
  have s12 := s1.trans s2
  refine low_go w2 (sl.mono s12.ii) h2 (fun y st3 yv I3 H3 h3 w3 s3 i3 => ?_) (cx_of (sl.mono s12.ii) (e.go s12))
  have s13 := s12.trans s3
  cases i2 with
  | dat hd => exact (h3 : False).elim
  | own p =>
    cases i3 with
    | own q => exact (h3 : False).elim
    | dat hy =>
      obtain ⟨j, xs, k, hj, hk, hl, hn⟩ := h3
      obtain ⟨u, hu, io⟩ := own_at w3 hj
      cases io with
      | @dic _ us hs =>
        have eq := key_is hy hk
        subst eq
        obtain ⟨w4, s4⟩ := set_own (o' := .dK (putK us k vv)) w3 hj (.dic (rk_putD (i1.mono (s2.ii.trans s3.ii)) hs))
        exact ⟨p, _, rfl, .inl ⟨us, k, hu, rfl, by rw [← paired_len hs]; exact hl, rfl⟩, e.nx _ _ _ _ _ hn w4 (s13.trans s4) (sl.mono s13.ii)⟩
theorem low_dnew : ∀ σ H Q, low K dDNew W σ H Q → tDNewK σ H Q := by
  rintro σ H Q ⟨Δ, st, I, ok, ex, wd, sl, h, c, cx⟩
  intro p hp
  obtain ⟨np, w2, s2⟩ := new_own (o := .dK []) (ob := .dic []) wd hp (.dic .nil)
  exact c _ _ _ _ _ (h p np) w2 s2 (.own p)
end
end DD
namespace DD
open PySem PySem.Spec PyProof.Rows L2
theorem hu1 {k : Nat} {A : Around} (r : Room k A) : A.units + 1 < cLine := by
  have := r.un
  omega
theorem hu64 {k : Nat} {A : Around} (r : Room k A) : A.units + 64 < cLine := by
  have := r.un
  omega
theorem hu65 {k : Nat} {A : Around} (r : Room k A) : A.units + 65 < cLine := by
  have := r.un
  omega
abbrev DO := List Sv → Store → (Option Int → Store → Prop) → EK → Prop
def dNoP : DO := fun _ st ok _ => ok none st
def dPart (t : DE) : DO := fun Δ st ok ex => t Δ st (fun x st1 => match x with
  | .dat (.int i) => ok (some i) st1
  | _ => False) ex
def lowO (K : PySem.W.Frag) (t : DO) (W : WX) : TO := fun σ H Q => ∃ Δ st I ok ex, Wd K st I H ∧ Sl K Δ I σ ∧ t Δ st ok ex ∧ (∀ o st' I' H', ok o st' → Wd K st' I' H' → Stp st I H st' I' H' → Q o H') ∧ ContX K st I H ex fun cls d H' => W cls d σ H'
/-- xs[lo:hi] of any items -/
def cutD {α : Type} (xs : List α) (lo hi : Option Int) : List α := (xs.drop (HT.sIx xs.length 0 lo)).take (HT.sIx xs.length xs.length hi - HT.sIx xs.length 0 lo)
theorem cut_rel {α : Type} {F : α → V → Prop} {xs : List α} {vs : List V} (h : Paired F xs vs) (lo hi : Option Int) : Paired F (cutD xs lo hi) (cutV vs lo hi) := by
  unfold cutD cutV
  rw [paired_len h]
  exact paired_take (paired_drop h _) _
def dSlL (te : DE) (lo hi : DO) : DE := fun Δ st ok ex => te Δ st (fun x st1 => lo Δ st1 (fun l st2 => hi Δ st2 (fun u st3 => withL x st3 fun xs => ∃ ds, AllD (cutD xs l u) ds ∧ ok (.dat (.lst ds)) st3) ex) ex) ex
def dSlT (te : DE) (lo hi : DO) : DE := fun Δ st ok ex => te Δ st (fun x st1 => lo Δ st1 (fun l st2 => hi Δ st2 (fun u st3 => match x with
  | .dat (.tup ds) => ok (.dat (.tup (cutD ds l u))) st3
  | _ => False) ex) ex) ex
section
variable {K : PySem.W.Frag} {W : WX} {st : Store} {I H : Hp}
theorem lowO_none : ∀ σ H Q, lowO K dNoP W σ H Q → tNoPart σ H Q := by
  rintro σ H Q ⟨Δ, st, I, ok, ex, wd, sl, h, c, cx⟩
  exact c _ _ _ _ h wd (Stp.refl _ _ _)
theorem lowO_some {t : DE} : ∀ σ H Q, lowO K (dPart t) W σ H Q → tPart (low K t W) σ H Q := by
  rintro σ H Q ⟨Δ, st, I, ok, ex, wd, sl, h, c, cx⟩
  refine low_go wd sl h (fun x st1 v I1 H1 h1 w1 s1 i1 => ?_) cx
  obtain ⟨n, rfl, h2⟩ := withI_rd (k := fun i => ok (some i) st1) i1 h1
  exact ⟨n, rfl, c _ _ _ _ h2 w1 s1⟩
theorem low_slL {te : DE} {lo hi : DO} : ∀ σ H Q, low K (dSlL te lo hi) W σ H Q → tSl (rSlL K) (low K te W) (lowO K lo W) (lowO K hi W) σ H Q := by
  rintro σ H Q ⟨Δ, st, I, ok, ex, wd, sl, h, c, cx⟩
  refine low_go wd sl h (fun x st1 v I1 H1 h1 w1 s1 i1 => ?_) cx
  refine ⟨Δ, st1, I1, _, ex, w1, sl.mono s1.ii, h1, fun l st2 I2 H2 h2 w2 s2 => ?_, cx.go s1⟩
  have s12 := s1.trans s2
  refine ⟨Δ, st2, I2, _, ex, w2, sl.mono s12.ii, h2, fun u st3 I3 H3 h3 w3 s3 => ?_, cx.go s12⟩
  obtain ⟨a, vs, xs, rfl, hs, hp, ds, ha, h3⟩ := withL_rd w3 (i1.mono (s2.ii.trans s3.ii)) h3
  refine ⟨a, vs, rfl, hs, fun p hp' => ?_⟩
  obtain ⟨w4, s4⟩ := new_known (o := .lst (cutV vs l u)) w3 hp'
  exact c _ _ _ _ _ h3 w4 ((s12.trans s3).trans s4) (.dat (.lst upd_same ((isDs_of ha (cut_rel hp l u)).mono (Ex.new (w3.sub.none hp')))))
theorem isDs_pair : ∀ {ds : List Dt} {vs : List V}, IsDs K I ds vs → Paired (IsD K I) ds vs
  | _, _, .nil => .nil
  | _, _, .cons a b => .cons a (isDs_pair b)
theorem pair_isDs : ∀ {ds : List Dt} {vs : List V}, Paired (IsD K I) ds vs → IsDs K I ds vs
  | _, _, .nil => .nil
  | _, _, .cons a b => .cons a (pair_isDs b)
theorem low_slT {te : DE} {lo hi : DO} : ∀ σ H Q, low K (dSlT te lo hi) W σ H Q → tSl (rSlA K) (low K te W) (lowO K lo W) (lowO K hi W) σ H Q := by
  rintro σ H Q ⟨Δ, st, I, ok, ex, wd, sl, h, c, cx⟩
  refine low_go wd sl h (fun x st1 v I1 H1 h1 w1 s1 i1 => ?_) cx
  refine ⟨Δ, st1, I1, _, ex, w1, sl.mono s1.ii, h1, fun l st2 I2 H2 h2 w2 s2 => ?_, cx.go s1⟩
  have s12 := s1.trans s2
  refine ⟨Δ, st2, I2, _, ex, w2, sl.mono s12.ii, h2, fun u st3 I3 H3 h3 w3 s3 => ?_, cx.go s12⟩
  have s13 := s12.trans s3
  cases i1 with
  | own p => exact (h3 : False).elim
  | dat hd =>
    cases hd with
    | @tup ds vs a ha hb =>
      have a3 := ha.mono (s2.ii.trans s3.ii)
      have b3 := hb.mono (s2.ii.trans s3.ii)
      have hp := cut_rel (isDs_pair b3) l u
      refine ⟨a, vs, rfl, w3.sub.st a3.st, fun hw => ?_, fun _ p hp' => ?_⟩
      · have e : cutD ds l u = ds := by
          unfold cutD
          have hl := paired_len (isDs_pair b3)
          rw [hl, hw.1, hw.2, List.drop_zero, Nat.sub_zero, ← hl, List.take_length]
        have h3' : ok (.dat (.tup (cutD ds l u))) st3 := h3
        rw [e] at h3'
        exact (c.go s13).now w3 h3' (.dat (.tup a3 b3))
      · obtain ⟨w4, s4⟩ := new_known (o := .tup (cutV vs l u)) w3 hp'
        exact c _ _ _ _ _ h3 w4 (s13.trans s4) (.dat (.tup (.inl upd_same) ((pair_isDs hp).mono (Ex.new (w3.sub.none hp')))))
    | _ => exact (h3 : False).elim
def dTruL (te : DE) : DT := fun Δ st ok ex => te Δ st (fun x st1 => withL x st1 fun xs => ok (!xs.isEmpty) st1) ex
theorem emp_eq {α β : Type} {F : α → β → Prop} : ∀ {xs : List α} {ys : List β}, Paired F xs ys → xs.isEmpty = ys.isEmpty
  | _, _, .nil => rfl
  | _, _, .cons _ _ => rfl
theorem lowT_truL {te : DE} : ∀ σ H Q, lowT K (dTruL te) W σ H Q → low K te W σ H (fun x H' => ∃ k, TruV K x H' k ∧ Q k H') := by
  rintro σ H Q ⟨Δ, st, I, ok, ex, wd, sl, h, c, cx⟩
  refine low_go wd sl h (fun x st1 v I1 H1 h1 w1 s1 i1 => ?_) cx
  obtain ⟨a, vs, xs, rfl, hs, hp, h1⟩ := withL_rd w1 i1 h1
  exact ⟨_, .inl ⟨vs, hs, by rw [← emp_eq hp]⟩, c _ _ _ _ h1 w1 s1⟩
def gCatU : G2 := fun x y st ok => match x, y with
  | .dat (.tup xs), .dat (.tup ys) => xs.length + ys.length ≤ sizeLine ∧ ok (.dat (.tup (xs ++ ys))) st
  | .dat (.ktu []), .dat (.tup ys) => ys.length ≤ sizeLine ∧ ok (.dat (.tup ys)) st
  | _, _ => False
theorem lr_catU : LR2 K (rCatA K) gCatU := by
  intro x y st I H ok Q v w wd ix iy h c
  cases ix with
  | own p => exact h.elim
  | dat hx =>
    cases hx with
    | @tup ds vs a ha hb =>
      cases iy with
      | own p => exact h.elim
      | dat hy =>
        cases hy with
        | @tup es us b ha2 hb2 =>
          obtain ⟨hl, h⟩ := h
          have l1 := paired_len (isDs_pair hb)
          have l2 := paired_len (isDs_pair hb2)
          refine ⟨a, b, vs, us, rfl, rfl, wd.sub.st ha.st, wd.sub.st ha2.st, by rw [← l1, ← l2]; exact hl, fun e => ?_, fun _ e => ?_, fun _ _ p hp => ?_⟩
          · subst e
            cases ds with
            | nil => exact c.now wd h (.dat (.tup ha2 hb2))
            | cons d ds => cases l1
          · subst e
            cases es with
            | nil =>
              rw [List.append_nil] at h
              exact c.now wd h (.dat (.tup ha hb))
            | cons d es => cases l2
          · obtain ⟨w2, s2⟩ := new_known (o := .tup (vs ++ us)) wd hp
            exact c _ _ _ _ _ h w2 s2 (.dat (.tup (.inl upd_same) ((pair_isDs (paired_app (isDs_pair hb) (isDs_pair hb2))).mono (Ex.new (wd.sub.none hp)))))
        | _ => exact h.elim
    | @ktu ds vs a ha hb =>
      cases iy with
      | own p => cases ds <;> exact h.elim
      | dat hy =>
        cases hy with
        | @tup es us b ha2 hb2 =>
          cases ds with
          | cons d ds => exact h.elim
          | nil =>
            obtain ⟨hl, h⟩ := h
            cases hb
            have l2 := paired_len (isDs_pair hb2)
            exact ⟨a, b, [], us, rfl, rfl, wd.sub.st ha, wd.sub.st ha2.st, by rw [← l2]; simpa using hl, fun _ => c.now wd h (.dat (.tup ha2 hb2)), fun e => absurd rfl e, fun e => absurd rfl e⟩
        | _ => cases ds <;> exact h.elim
    | _ => cases iy <;> exact h.elim
/-- the keys of a dict -/
def gListK : GC := fun xs st ok => match xs with
  | [x] => withK x st fun kvs => ok (.dat (.lst (kvs.map fun kv => match kv.1 with | .inl i => .int i | .inr z => .str z))) st
  | _ => False
def rListR : List V → Hp → VK → Prop := fun xs H Q => ∃ p kvs, xs = [.ref p] ∧ Rd H p (.dK kvs) ∧ ∀ q, H q = none → Q (.ref q) (upd H q (.lst (kvs.map fun kv => kV kv.1)))
theorem keys_rel : ∀ {kvs : List (Key × Sv)} {vs : List (Key × V)}, Paired (RK K I) kvs vs → ∀ J, IsDs K J (kvs.map fun kv => match kv.1 with | .inl i => .int i | .inr z => .str z) (vs.map fun kv => kV kv.1)
  | _, _, .nil, _ => .nil
  | _, _, .cons (a := (k, s)) (b := (k', v)) r t, J => by
    obtain ⟨e, _⟩ := r
    have e : k = k' := e
    subst e
    refine .cons ?_ (keys_rel t J)
    cases k with
    | inl i => exact .int i
    | inr z => exact .str z
theorem lc_listK : LRC (K := K) rListR gListK := by
  intro xs st I H ok Q vs wd ix h c
  unfold gListK at h
  split at h
  · obtain ⟨v, rfl, i⟩ := one_of rfl ix
    obtain ⟨a, us, kvs, rfl, hd, hp, h⟩ := withK_rd wd i h
    refine ⟨a, us, rfl, hd, fun q hq => ?_⟩
    obtain ⟨w2, s2⟩ := new_known (o := .lst (us.map fun kv => kV kv.1)) wd hq
    exact c _ _ _ _ _ h w2 s2 (.dat (.lst upd_same (keys_rel hp _)))
  · exact h.elim
end
theorem call_listR {X : Cx} (hc : X.calm = true) : CallR X (.type "list") rListR := by
  intro pins s σ H xs us Q I r h
  obtain ⟨p, kvs, e, hk, q⟩ := h
  subst e
  obtain ⟨u, eu, rx⟩ := vals1 r
  subst eu
  have eu : u = Value.ref p := rx
  subst eu
  obtain ⟨z, lo, vs, rk, hd⟩ : ObjOk X.prog X.w H s.heap p (.dK kvs) := hk.ok I.hok
  obtain ⟨ep, hat⟩ := hd.dictAt
  have hl : kvs.length = vs.length := Paired.length rk
  apply PySem.W.kdl_call (PySem.W.kdl_dict (knd := mixKind X.prog X.w) (kvs := vs) (ep := ep) lo) (I.ok.hd hc) hat (by rw [← hl]; exact z)
  intro h' tk acc c' keep new items
  have rel : Vals (kvs.map fun kv => kV kv.1) acc.toList := by
    have e0 : acc.toList.length = kvs.length := by rw [Array.length_toList, items.1, hl]
    apply vals_of_at (by rw [List.length_map]; exact e0.symm)
    intro j x w h1 h2
    obtain ⟨k, y, hky, hi⟩ := items.2 j w (by rw [← Array.getElem?_toList]; exact h2)
    have e1 : (kvs.map (·.1))[j]? = some k := by rw [KV.keys rk, List.getElem?_map, hky]; rfl
    have e2 : (kvs.map fun kv => kV kv.1)[j]? = some (kV k) := by
      have e3 : (kvs.map fun kv => kV kv.1) = (kvs.map (·.1)).map kV := by rw [List.map_map]; rfl
      rw [e3, List.getElem?_map, e1]
      rfl
    rw [e2] at h1
    cases h1
    exact keyIs_rel hi
  exact ⟨.ref s.heap.objs.size, _, I.laid keep (Nat.le_refl _) (show ObjOk X.prog X.w _ _ _ (.lst (kvs.map fun kv => kV kv.1)) from ⟨by rw [List.length_map]; exact z, acc.toList, c', rel, by rw [Array.toArray_toList]; exact new⟩), rfl, q _ (I.hok.fresh (Nat.le_refl _))⟩
section
variable {X : Cx} {W : WX} {a b c e o : Expr} {es : List Expr} {ta tb tc te to : DE} {pos p p2 apos : Pos} {s : Stmt} {ss : List Stmt} {t u : DS}
theorem tB_of {td : DE} {tr : TE} (h : ∀ σ H Q, low X.K td W σ H Q → tr σ H Q) : ∀ σ H Q, lowT X.K (dTest td) W σ H Q → tB tr σ H Q := fun σ H Q q => by
  obtain ⟨Δ, st, I, ok, ex, wd, sl, q, c, cx⟩ := q
  refine h _ _ _ ⟨Δ, st, I, _, ex, wd, sl, q, fun s st' v I' H' h' w' s' i' => ?_, cx⟩
  cases i' with
  | own p => exact h'.elim
  | dat hd =>
    cases hd with
    | bl k => exact ⟨k, rfl, c _ _ _ _ h' w' s'⟩
    | _ => exact h'.elim
theorem ddget (hu : X.A.units + 1 < cLine) (ho : PEd X W o to) (hi : PEd X W e te) (hs : NoSl e := by exact fun _ _ => rfl) : PEd X W (.Subscript o e pos) (dDGet to te) := PE.imp (pe_dget hu ho hi hs) low_dget
theorem tdNi (hu : X.A.units + 1 < cLine) (hi : PEd X W e te) (ho : PEd X W o to) (h1 : behindInMarks .NotIn o = false := by with_unfolding_all rfl) : PTd X W (.Compare e [.NotIn] [o] pos) (dTest (dDIn true te to)) := PT.imp (pt_cmp (pc_dnotin hu hi ho) h1) (tB_of low_dni)
theorem sdput {p' : Pos} {tv : DE} (hu : X.A.units + 1 < cLine) (hv : PEd X W a tv) (ho : PEd X W o to) (hi : PEd X W e te) (hs : swapsWith a (some (.Subscript o e p')) pos.line X.env = pure false := by rfl) : PSd X W (.Assign [.Subscript o e p'] a pos) (dDPut to te tv) := PS.imp (ps_dput hu ho hi hv hs) lowS_dput
theorem ddnew : PEd X W (.Dict [] [] pos) dDNew := PE.imp pe_dnewK low_dnew
theorem tsIn {k : Nat} (hr : Room k X.A) (ha : PEd X W a ta) (hb : PEd X W b tb) (hm : behindInMarks .In b = false := by with_unfolding_all rfl) : PTd X W (.Compare a [.In] [b] pos) (dTest (dOp (gInP false) ta tb)) := tcmp (op_inP (hu65 hr)) lr_inP ha hb hm
theorem tsNi {k : Nat} (hr : Room k X.A) (ha : PEd X W a ta) (hb : PEd X W b tb) (hm : behindInMarks .NotIn b = false := by with_unfolding_all rfl) : PTd X W (.Compare a [.NotIn] [b] pos) (dTest (dOp (gInP true) ta tb)) := tcmp (op_niP (hu65 hr)) lr_inP ha hb hm
abbrev POd (X : Cx) (W : WX) (e : Option Expr) (t : DO) : Prop := PO X e (lowO X.K t W)
theorem PO.imp {e : Option Expr} {t t' : TO} (h : PO X e t) (i : ∀ σ H Q, t' σ H Q → t σ H Q) : PO X e t' := ⟨fun pins s σ H Q J q => h.run pins s σ H Q J (i σ H Q q)⟩
theorem onone : POd X W none dNoP := PO.imp po_none lowO_none
theorem osome (h : PEd X W e te) : POd X W (some e) (dPart te) := PO.imp (po_some h) lowO_some
theorem dslL {l r : Option Expr} {tl tr : DO} (h : PEd X W e te) (hl : POd X W l tl) (hr : POd X W r tr) : PEd X W (.Subscript e (.Slice l r none p2) pos) (dSlL te tl tr) := PE.imp (pe_slice sl_list h hl hr) low_slL
theorem dslT {l r : Option Expr} {tl tr : DO} (h : PEd X W e te) (hl : POd X W l tl) (hr : POd X W r tr) : PEd X W (.Subscript e (.Slice l r none p2) pos) (dSlT te tl tr) := PE.imp (pe_slice sl_tupA h hl hr) low_slT
theorem ttruL (h : PEd X W e te) (he : ∀ whole, isTrue e X.env whole = (do let v ← whole; standAt e.pos; holding [v] (truthy v)) := by intro _; rfl) : PTd X W e (dTruL te) := PT.imp (pt_truth h he) lowT_truL
theorem sapp (ho : PEd X W o to) (he : PEd X W e te) (hbase : attributeBase o "append" X.env (eval o X.env) = eval o X.env := by rfl)
    (hfew : ((backTo pos (starEach [e] X.env)).all (fun x => !x.1) && (backToKw pos (keywordEach [] X.env)).all (fun x => x.1.isSome)
      && decide (([e] : List Expr).length + ([] : List Keyword).length + (if ([] : List Keyword).isEmpty then 0 else 1) < 30)) = true := by rfl)
    (hline : (apos.endLine == pos.line) = true := by rfl) (hs : starEach [e] X.env = (false, eval e X.env) :: starEach [] X.env := by rfl) (hplain : (backTo pos (starEach [] X.env)).any (·.1) = false := by rfl)
    (hsw : swapsWith (.Call (.Attribute o "append" apos) [e] [] pos) none p2.line X.env = pure false := by rfl) : PSd X W (.Expr (.Call (.Attribute o "append" apos) [e] [] pos) p2) (dApp to te) :=
  PS.imp (ps_expr (pe_bm PySem.F.plainAttrs_list PySem.F.slot_list_append PySem.F.type_list_append mt_append ho (pa_cons he pa_nil hs) hbase hfew hline hs hplain) hsw) lowS_app
theorem sdrop (he : PEd X W e te) (hs : swapsWith e none pos.line X.env = pure false := by rfl) : PSd X W (.Expr e pos) (dDrop te) := PS.imp (ps_expr he hs) lowS_drop
theorem sbreak : PSd X W (.Break pos) dBreak := PS.imp ps_break lowS_break
end
end DD
namespace DD
open PySem PySem.Spec PyProof.Rows L2
/-- the class's facts for != -/
structure NeC (K : PySem.W.Frag) (C f : Addr) : Prop where
  cls : ∃ nm q N bs hdct sn sub ab col dd k0 k1 k2 k3 k5 newId, K.lookup C = some (excClassObj nm q C N bs [.type "object"] hdct sn sub ab col dd k0 k1 k2 k3 k5 newId) ∧ PySem.W.nsOkIn K N = true ∧ PySem.W.nsIn K N "__eq__" = some (some (.ref f)) ∧ PySem.W.nsIn K N "__ne__" = some none
  fn : ∃ of : Obj, K.lookup f = some of ∧ of.cls = .type "function"
end DD
namespace DD
open PySem PySem.Spec PyProof.Rows L2
def dDeadS : DS := fun _ _ _ => False
theorem sdead {X : Cx} {W : WX} {e : Stmt} : PSd X W e dDeadS := ⟨fun pins s σ H Q I h => by obtain ⟨_, _, _, _, _, _, z, _⟩ := h; exact z.elim⟩
abbrev Cl := Value × Option Nat × (Addr → Value → Option Addr → TS)
def shut (i : Nat) (D : Ends) : Ends := { nx := fun σ H => D.nx (σ.set i none) H, rt := D.rt, bk := fun σ H => D.bk (σ.set i none) H, ct := fun σ H => D.ct (σ.set i none) H }
def clAt (D : Ends) (l : Cl) (a : Addr) (cls : Value) (d : Option Addr) (σ : L2.St) (H : Hp) : Prop := match l.2.1 with
  | none => l.2.2 a cls d D σ H
  | some i => l.2.2 a cls d (shut i D) (σ.set i (some (.ref a))) H
def wCls (K : PySem.W.Frag) (Wo : WX) (D : Ends) : List Cl → WX
  | [] => Wo
  | l :: r => fun cls d σ H => ∃ b, PySem.W.exmOne K cls l.1 = some b ∧ (b = true → ∀ a, H a = none → clAt D l a cls d σ H) ∧ (b = false → wCls K Wo D r cls d σ H)
/-- the suites' derivations -/
def SuOk (X : Cx) (sl : List Stmt) (ts : Addr → Value → Option Addr → TS) : Prop := ∀ (a : Addr) (oe : Obj) (cls : Value) (d : Option Addr) (pn : List (Addr × Obj)), Zc cls d oe → (∃ vs, oe.data = .fields vs) → PSs (X.suite a ((a, oe) :: pn)) sl (ts a cls d)
inductive Cls_ (X : Cx) : List ExceptHandler → List Cl → Prop
  | nil : Cls_ X [] []
  | bare {x : Str} {c : Value} {ts : Addr → Value → Option Addr → TS} {b : Stmt} {su : List Stmt} {p q : Pos} {hs : List ExceptHandler} {l : List Cl} (n : Names X x c) (s : SuOk X (b :: su) ts) (r : Cls_ X hs l) : Cls_ X (.ExceptHandler (some (.Name x p)) none (b :: su) q :: hs) ((c, none, ts) :: l)
  | as {x y : Str} {i : Nat} {c : Value} {ts : Addr → Value → Option Addr → TS} {b : Stmt} {su : List Stmt} {p q : Pos} {hs : List ExceptHandler} {l : List Cl} (hi : X.N[i]? = some y) (hl : X.env.kindOf y = some .local) (n : Names X x c) (s : SuOk X (b :: su) ts) (r : Cls_ X hs l) :
      Cls_ X (.ExceptHandler (some (.Name x p)) (some y) (b :: su) q :: hs) ((c, some i, ts) :: l)
section
variable {X : Cx} {h₀ : ExceptHandler} {hds : List ExceptHandler} {l : List Cl} {pos : Pos} {body : List Stmt} {tb : WX → TS} {Wo : WX}
theorem ps_try_cls (hst : X.stack = X.env :: X.outer) (hfr : X.env.frame = some X.env.locals) (hN : X.N.Nodup) (tk : Takes X Wo)
    (hb : ∀ (V : WX) (pn : List (Addr × Obj)) (xe : Value → Shared → Prop), Takes (X.tr pn xe) V → PassesOwn (model X.prog X.w) X.A X.env xe → PSs (X.tr pn xe) body (tb V))
    (hh : Cls_ X (h₀ :: hds) l) : PS X (.Try body (h₀ :: hds) [] [] pos) (fun D σ H => tb (wCls X.K Wo D l) D σ H) := by
  constructor
  intro pins s σ H D I h
  have fr : X.A.frames = some (X.env :: X.outer) := I.ok.frames.trans (congrArg some hst)
  apply wpAny_Try_except
  let xe : Value → Shared → Prop := fun e s1 => wpAny (model X.prog X.w) X.A (noteFrame e X.env) (fun _ s2 => wpAny (model X.prog X.w) X.A (setFlight e none) (fun _ s3 => wpAny (model X.prog X.w) X.A (handleBy e X.env (h₀ :: hds)) (SP X pins D) X.xe s3) X.xe s2) X.xe s1
  have tk1 : Takes (X.tr (X.pn ++ pins) xe) (wCls X.K Wo D l) := by
    rintro u s1 ⟨a, B, sI, pins1, σ1, H1, cls, d, rfl, J0, nb, up, sk, na, os, ag, wish⟩
    have J := J0.ofTry I.ok
    have sk1 : Sky B (X.env :: X.outer) a (Zc cls d) X.env.locals s1.heap := hst ▸ sk
    show wpAny (model X.prog X.w) X.A (noteFrame (.ref a) X.env) _ _ _
    apply Sky.land Zc.steady fr hfr sk1
    intro g fl upg
    have upB := up.trans upg
    have Jg : L2.Inv X pins σ1 H1 { s1 with heap := g } := J.landed nb fl.1 upB os ag
    obtain ⟨ob, fs, hob, hz, hfs⟩ := fl.there
    have out : a ∉ frs (X.env :: X.outer) := fun m => by
      obtain ⟨_, o1, h1, h2⟩ := fl.2.2.1.mem m
      rw [hob] at h1
      cases h1
      exact h2 _ hfs
    have aL : a ≠ X.env.locals := fun z => out (List.mem_filterMap.mpr ⟨_, List.mem_cons_self, by rw [hfr, z]⟩)
    have aF : a ∉ X.fs := fun m => by
      obtain ⟨e1, m1, q1⟩ := List.mem_filterMap.mp m
      exact out (List.mem_filterMap.mpr ⟨_, List.mem_cons_of_mem _ m1, q1⟩)
    have Sg := Jg.suite hob hfs na aL aF
    suffices go : ∀ {hs : List ExceptHandler} {ls : List Cl}, Cls_ X hs ls → wCls X.K Wo D ls cls d σ1 H1 → wpAny (model X.prog X.w) X.A (handleBy (.ref a) X.env hs) (SP X pins D) X.xe { s1 with heap := g } from go hh wish
    have leave : Wo cls d σ1 H1 → wpAny (model X.prog X.w) X.A (handleBy (.ref a) X.env []) (SP X pins D) X.xe { s1 with heap := g } := fun wo => by
      apply wpAny_handleBy_nil
      unfold PySem.passOn
      obtain ⟨_, _, _, ob2, fs2, T, _, _, hob2, _, hfs2, tb1, _⟩ := id fl
      refine wpAny_bind (wpAny_field hob2 hfs2 tb1 ?_)
      rw [if_neg (by simp : ¬ ((Value.ref T == Value.none) = true))]
      have thr : wpAny (model X.prog X.w) X.A (setFlight (.ref a) X.env.frame) (fun _ s4 => wpAny (model X.prog X.w) X.A (throw (.ref a) : Sem Flow) (SP X pins D) X.xe s4) X.xe { s1 with heap := g } := by
        rw [hfr]
        exact HandSPX.setFlight_upZ fl fun g4 sk4 up4 => wpAny_throw (tk _ _ ⟨a, B, sI, pins, σ1, H1, cls, d, rfl, J, nb, upB.trans up4, .inr (.inr (by rw [hst]; exact sk4)), na, os, ag, wo⟩)
      first | exact wpAny_bind (wpAny_pure (wpAny_bind thr)) | exact wpAny_bind thr
    have nameAt : ∀ {x : Str} {c : Value} {p : Pos} {Q E : Value → Shared → Prop}, Names X x c → Q c { s1 with heap := g } → wpAny (model X.prog X.w) (X.A.mark (some (.ref a))) (eval (.Name x p) X.env) Q E { s1 with heap := g } := fun {x c p Q E} n q => by
      rcases n with ⟨g1, g2, g3 | ⟨g3, g4, g5⟩⟩
      · exact ld_glob (X := X.suite a ((a, ob) :: (X.pn ++ pins))) Sg g1 g3 q g2
      · exact ld_blt (X := X.suite a ((a, ob) :: (X.pn ++ pins))) Sg g1 g3 g4 q g5 g2
    have clsOf : PySem.W.Looks (model X.prog X.w) g (typeOf (.ref a)) cls := fun A Q E s' k q => wpAny_typeOf_ref (k _ _ hob) (by rw [hz.1]; exact q)
    intro hs ls c
    induction c with
    | nil => exact leave
    | @bare x c ts b su p q hs ls n sok r ih =>
      rintro ⟨k, hk, yes, no⟩
      refine wpAny_handleBy_cons (codeAny_handlers_test (nameAt n ((PySem.W.exm_one (M := model X.prog X.w) Jg.kIn clsOf hk).here ?_))) (fun z => nomatch z)
      cases k with
      | false => exact ih (no rfl)
      | true =>
        refine codeAny_handlers_suite (HandSPX.lands_againZ fl fun g2 fl2 up2 => ?_)
        have J2 : L2.Inv X pins σ1 H1 { s1 with heap := g2 } := J.landed nb fl2.1 (upB.trans up2) os ag
        obtain ⟨ob2, fs2, hob2, hz2, hfs2⟩ := fl2.there
        refine wpAny_mono ((sok a ob2 cls d (X.pn ++ pins) hz2 ⟨_, hfs2⟩).run [] _ _ H1 _ (J2.suite hob2 hfs2 na aL aF) (yes rfl a na)) (fun f s6 sp => ?_) (fun _ _ z => z.elim)
        cases f with
        | ret u => obtain ⟨v, σ6, H6, S6, r6, q6⟩ := sp; exact ⟨v, σ6, H6, S6.unsuite I.ok, r6, q6⟩
        | next => obtain ⟨σ6, H6, S6, q6⟩ := sp; exact ⟨σ6, H6, S6.unsuite I.ok, q6⟩
        | brk => obtain ⟨σ6, H6, S6, q6⟩ := sp; exact ⟨σ6, H6, S6.unsuite I.ok, q6⟩
        | cont => obtain ⟨σ6, H6, S6, q6⟩ := sp; exact ⟨σ6, H6, S6.unsuite I.ok, q6⟩
    | @as x y i c ts b su p q hs ls hi hl n sok r ih =>
      rintro ⟨k, hk, yes, no⟩
      refine wpAny_handleBy_cons (codeAny_handlers_test (nameAt n ((PySem.W.exm_one (M := model X.prog X.w) Jg.kIn clsOf hk).here ?_))) (fun z => nomatch z)
      cases k with
      | false => exact ih (no rfl)
      | true =>
        refine codeAny_handlers_suite_as (HandSPX.lands_againZ fl fun g2 fl2 up2 => ?_)
        have J2 : L2.Inv X pins σ1 H1 { s1 with heap := g2 } := J.landed nb fl2.1 (upB.trans up2) os ag
        obtain ⟨ob2, fs2, hob2, hz2, hfs2⟩ := fl2.there
        refine store_ok (X := X.suite a ((a, ob2) :: (X.pn ++ pins))) (v := .ref a) (J2.suite hob2 hfs2 na aL aF) hN hi (.inl hl) rfl (fun s5 S5 => ?_) (.inr hl)
        refine wpAny_mono ((sok a ob2 cls d (X.pn ++ pins) hz2 ⟨_, hfs2⟩).run [] s5 _ H1 _ S5 (yes rfl a na)) (fun f s6 sp => ?_) (fun _ _ z => z.elim)
        have bye : ∀ {σ6 : L2.St} {H6 : Hp} {Q : Shared → Prop}, L2.Inv (X.suite a ((a, ob2) :: (X.pn ++ pins))) [] σ6 H6 s6 → (∀ s7, L2.Inv X pins (σ6.set i none) H6 s7 → Q s7) →
            wpAny (model X.prog X.w) X.A (do bindName X.env y .none; unbindBehindTheSuite X.env y q) (fun _ s7 => Q s7) X.xe s6 := fun S6 hq => gone_ok (S6.unsuite I.ok) hN hi hl hq
        cases f with
        | ret u => obtain ⟨v, σ6, H6, S6, r6, q6⟩ := sp; exact bye S6 fun s7 J7 => ⟨v, _, _, J7, r6, q6⟩
        | next => obtain ⟨σ6, H6, S6, q6⟩ := sp; exact bye S6 fun s7 J7 => ⟨_, _, J7, q6⟩
        | brk => obtain ⟨σ6, H6, S6, q6⟩ := sp; exact bye S6 fun s7 J7 => ⟨_, _, J7, q6⟩
        | cont => obtain ⟨σ6, H6, S6, q6⟩ := sp; exact bye S6 fun s7 J7 => ⟨_, _, J7, q6⟩
  refine wpAny_mono ((hb _ (X.pn ++ pins) xe tk1 PassesOwn.looking).run [] s σ H D (I.toTry _) h) (fun f s1 sp => ?_) (fun e s1 he => he)
  cases f with
  | next => obtain ⟨σ6, H6, S6, q6⟩ := sp; exact wpAny_execs_nil ⟨σ6, H6, S6.ofTry I.ok, q6⟩
  | brk => obtain ⟨σ6, H6, S6, q6⟩ := sp; exact ⟨σ6, H6, S6.ofTry I.ok, q6⟩
  | cont => obtain ⟨σ6, H6, S6, q6⟩ := sp; exact ⟨σ6, H6, S6.ofTry I.ok, q6⟩
  | ret u => obtain ⟨v, σ6, H6, S6, r6, q6⟩ := sp; exact ⟨v, σ6, H6, S6.ofTry I.ok, r6, q6⟩
end
abbrev DCl := Value × Option Nat × (Addr → Value → Option Addr → DS)
def shutN (i : Nat) (N : DN) : DN := { N with nx := fun Δ st => N.nx (Δ.set i .un) st, bk := fun Δ st => N.bk (Δ.set i .un) st, ct := fun Δ st => N.ct (Δ.set i .un) st }
def dClAt (N : DN) (l : DCl) (x : Xc) (a : Addr) (d : Option Addr) (Δ : List Sv) (st : Store) : Prop := match l.2.1 with
  | none => l.2.2 a (.ref x.C) d Δ st (calmN N)
  | some i => l.2.2 a (.ref x.C) d (Δ.set i (.dat (.exc a d x.C x.fs))) st (shutN i (calmN N))
def dCls (K : PySem.W.Frag) (N : DN) : List DCl → Xc → List Sv → Store → Prop
  | [] => fun x Δ st => N.ex x Δ st
  | l :: r => fun x Δ st => ∃ b, PySem.W.exmOne K (.ref x.C) l.1 = some b ∧ (b = true → ∀ a d, (x.fs = [] → d = none) → dClAt N l x a d Δ st) ∧ (b = false → dCls K N r x Δ st)
def dTryN (K : PySem.W.Frag) (cl : List DCl) (body : DS) : DS := fun Δ st N => body Δ st { N with ex := dCls K N cl }
def lowC (K : PySem.W.Frag) (l : DCl) : Cl := (l.1, l.2.1, fun a cls d => lowS K (l.2.2 a cls d) W0)
theorem ends_shut {K : PySem.W.Frag} {W : WX} {st : Store} {I H : Hp} {N : DN} {D : Ends} {i : Nat} (e : Ends_ K st I H N W D) : Ends_ K st I H (shutN i (calmN N)) W0 (shut i D) where
  nx := fun Δ st' σ' I' H' h w s l => e.nx _ _ _ _ _ h w s (sl_un l i)
  rt := e.rt
  bk := fun Δ st' σ' I' H' h w s l => e.bk _ _ _ _ _ h w s (sl_un l i)
  ct := fun Δ st' σ' I' H' h w s l => e.ct _ _ _ _ _ h w s (sl_un l i)
  ex := fun _ _ _ _ _ _ _ _ z => z.elim
theorem isd_exc {K : PySem.W.Frag} {I H : Hp} {x : Xc} {cls : Value} {d : Option Addr} (xi : XIs K I H x cls d) (a : Addr) : IsD K I (.exc a d x.C x.fs) (.ref a) := by
  rcases xi.2 with ⟨e, e'⟩ | ⟨_, dd, vs, e1, e2, e3⟩
  · rw [e, e']; exact .exc0
  · rw [e1]; exact .exc e2 e3
theorem lowS_tryN {K : PySem.W.Frag} {W : WX} {cl : List DCl} {body : DS} : ∀ D σ H, lowS K (dTryN K cl body) W D σ H → lowS K body (wCls K W D (cl.map (lowC K))) D σ H := by
  rintro D σ H ⟨Δ, st, I, N, wd, sl, h, e⟩
  refine lowS_go wd sl h ⟨e.nx, e.rt, e.bk, e.ct, fun x Δ' st' cls d σ' I' H' h' w' s' l' xi => ?_⟩
  clear h
  induction cl with
  | nil => exact e.ex _ _ _ _ _ _ _ _ h' w' s' l' xi
  | cons l r ih =>
    obtain ⟨b, hb, h1, h2⟩ := h'
    refine ⟨b, by rw [xi.1]; exact hb, fun hb a ha => ?_, fun hb => ih (h2 hb)⟩
    have q := h1 hb a d fun e => xi.2.elim (fun z => z.2) fun z => absurd e z.1
    obtain ⟨c, o, u⟩ := l
    have ec := xi.1
    subst ec
    cases o with
    | none => exact lowS_go w' l' q (ends_calm (e.go s'))
    | some i => exact lowS_go w' (l'.set (.dat (isd_exc xi a))) q (ends_shut (e.go s'))
/-- a suite's derivation -/
abbrev SuD (X : Cx) (sl : List Stmt) (u : Addr → Value → Option Addr → DS) : Prop := ∀ (a : Addr) (oe : Obj) (cls : Value) (d : Option Addr) (pn : List (Addr × Obj)), Zc cls d oe → (∃ vs, oe.data = .fields vs) → PBd (X.suite a ((a, oe) :: pn)) W0 sl (u a cls d)
inductive ClD (X : Cx) : List ExceptHandler → List DCl → Prop
  | nil : ClD X [] []
  | bare {x : Str} {c : Value} {u : Addr → Value → Option Addr → DS} {b : Stmt} {su : List Stmt} {p q : Pos} {hs : List ExceptHandler} {l : List DCl} (n : Names X x c) (s : SuD X (b :: su) u) (r : ClD X hs l) : ClD X (.ExceptHandler (some (.Name x p)) none (b :: su) q :: hs) ((c, none, u) :: l)
  | as {x y : Str} (i : Nat) {c : Value} {u : Addr → Value → Option Addr → DS} {b : Stmt} {su : List Stmt} {p q : Pos} {hs : List ExceptHandler} {l : List DCl} (n : Names X x c) (s : SuD X (b :: su) u) (r : ClD X hs l) (hi : X.N[i]? = some y := by rfl) (hl : X.env.kindOf y = some .local := by rfl) :
      ClD X (.ExceptHandler (some (.Name x p)) (some y) (b :: su) q :: hs) ((c, some i, u) :: l)
theorem ClD.low {X : Cx} {hs : List ExceptHandler} {l : List DCl} (h : ClD X hs l) : Cls_ X hs (l.map (lowC X.K)) := by
  induction h with
  | nil => exact .nil
  | bare n s r ih => exact .bare n s ih
  | as i n s r hi hl ih => exact .as hi hl n s ih
theorem named {X : Cx} {x : Str} {c : Value} (hm : X.mg x = some c) (hg : Gl X x := by rfl) (hd : (x == ("__debug__" : Str)) = false := by decide) : Names X x c := ⟨hg, hd, .inl hm⟩
theorem stryN {X : Cx} {W : WX} (K : PySem.W.Frag) {h₀ : ExceptHandler} {hds : List ExceptHandler} {cl : List DCl} {body : List Stmt} {pos : Pos} {t : DS} (hN : X.N.Nodup) (tk : Takes X W)
    (hb : ∀ (V : WX) (pn : List (Addr × Obj)) (xe : Value → Shared → Prop), Takes (X.tr pn xe) V → PassesOwn (model X.prog X.w) X.A X.env xe → PBd (X.tr pn xe) V body t)
    (hh : ClD X (h₀ :: hds) cl) (hst : X.stack = X.env :: X.outer := by rfl) (hfr : X.env.frame = some X.env.locals := by rfl) (hK : X.K = K := by rfl) : PSd X W (.Try body (h₀ :: hds) [] [] pos) (dTryN K cl t) := by
  subst hK
  exact PS.imp (ps_try_cls (tb := fun V => lowS X.K t V) hst hfr hN tk hb hh.low) lowS_tryN
end DD
namespace DD
open PySem PySem.Spec PyProof.Rows L2
def dOr2 (t u : DE) : DE := fun Δ st ok ex => t Δ st ok ex ∨ u Δ st ok ex
theorem deither {X : Cx} {W : WX} {e : Expr} {t u : DE} (h1 : PEd X W e t) (h2 : PEd X W e u) : PEd X W e (dOr2 t u) := ⟨fun pins s σ H Q I h => by
  obtain ⟨Δ, st, I0, ok, ex, wd, sl, h | h, c, cx⟩ := h
  · exact h1.run pins s σ H Q I ⟨Δ, st, I0, ok, ex, wd, sl, h, c, cx⟩
  · exact h2.run pins s σ H Q I ⟨Δ, st, I0, ok, ex, wd, sl, h, c, cx⟩⟩
def dIsi2 (K : PySem.W.Frag) (k1 k2 : Kd) (te : DE) : DE := fun Δ st ok ex => te Δ st (fun s st1 => match s with
  | .dat d => match kdD d with
    | some j => ok (.dat (.bl (j.isK k1 || j.isK k2))) st1
    | none => False
  | _ => False) ex
theorem kit_two {K : PySem.W.Frag} (j k1 k2 : Kd) : PySem.W.kitAny K (.type j.nm) [.type k1.nm, .type k2.nm] = some (j.isK k1 || j.isK k2) := by
  refine kitAny_cons (kit_ty (kd_ok j k1)) (fun h => ?_) (fun h => by rw [h]; rfl)
  refine kitAny_cons (kit_ty (kd_ok j k2)) (fun h2 => ?_) (fun h2 => by rw [h2, Bool.or_true])
  rw [h, h2]
  rfl
theorem low_isi2 {K : PySem.W.Frag} {W : WX} {k1 k2 : Kd} {te : DE} : ∀ σ H Q, low K (dIsi2 K k1 k2 te) W σ H Q → tCB (rIsiT K) (tCons (low K te W) (tCons (tTup (tCons (tC (.ty k1.nm)) (tCons (tC (.ty k2.nm)) tNil))) tNil)) σ H Q := by
  rintro σ H Q ⟨Δ, st, I, ok, ex, wd, sl, h, c, cx⟩
  refine low_go wd sl h (fun x st1 v I1 H1 h1 w1 s1 i1 => ?_) cx
  cases i1 with
  | own p => exact h1.elim
  | @dat d _ hd =>
    cases e : kdD d with
    | none => simp only [e] at h1
    | some j =>
      simp only [e] at h1
      refine ⟨by show 2 ≤ sizeLine; decide, fun p hp => ?_⟩
      obtain ⟨w2, s2⟩ := new_known (o := .tup [.ty k1.nm, .ty k2.nm]) w1 hp
      exact ⟨v, p, _, _, _, _, rfl, upd_same, .cons (.ty _) (.cons (.ty _) .nil), ty_of w2 (hd.mono (Ex.new (w1.sub.none hp))) e, kit_two j k1 k2, c _ _ _ _ _ h1 w2 (s1.trans s2) (.dat (.bl _))⟩
theorem disi2 {X : Cx} {W : WX} (K : PySem.W.Frag) {k1 k2 : Kd} {x1 x2 : Str} {e : Expr} {te : DE} {p p1 p2 p3 pos : Pos} {n : Nat} (hm : X.mg "isinstance" = none) (hx1 : X.mg x1 = none) (hx2 : X.mg x2 = none) (hv1 : KdB x1 k1) (hv2 : KdB x2 k2) (he : PEd X W e te) (hg : Gl X "isinstance" := by rfl) (hg1 : Gl X x1 := by rfl) (hg2 : Gl X x2 := by rfl)
    (hn1 : x1 ≠ "__name__" := by decide) (hd1 : (x1 == ("__debug__" : Str)) = false := by decide) (hn2 : x2 ≠ "__name__" := by decide) (hd2 : (x2 == ("__debug__" : Str)) = false := by decide)
    (h1 : starEach [e, .Tuple [.Name x1 p1, .Name x2 p2] n p3] X.env = (false, eval e X.env) :: starEach [.Tuple [.Name x1 p1, .Name x2 p2] n p3] X.env := by rfl) (hpl : (backTo pos (starEach [.Tuple [.Name x1 p1, .Name x2 p2] n p3] X.env)).any (·.1) = false := by rfl) (hK : X.K = K := by rfl) :
    PEd X W (.Call (.Name "isinstance" p) [e, .Tuple [.Name x1 p1, .Name x2 p2] n p3] [] pos) (dIsi2 K k1 k2 te) := by
  subst hK
  exact PE.imp (pe_callB call_isiT hg hm PyProof.Rows.boot_isinstance (pa_cons he (pa_cons (pe_tup (pa_cons (pe_bltn (v := .ty k1.nm) hg1 hx1 hv1.v rfl hn1 hd1) (pa_cons (pe_bltn (v := .ty k2.nm) hg2 hx2 hv2.v rfl hn2 hd2) pa_nil))) pa_nil) h1) (he := h1) (hpl := hpl)) low_isi2
theorem fn_none {P : Program} {w : World} {K : PySem.W.Frag} {mg : Str → Option Value} {base : Heap} {f : Addr} {fd : FuncData} {ps : List Str} {ct : Ct} (h : ∀ ss st ok ex, ct ss st ok ex → False) : FnOk P w K mg base (L2.CX P w) 0 f fd ps (lowF K ct) where
  len := fun vs H Q E ⟨_, _, _, _, _, _, _, z, _⟩ => (h _ _ _ _ z).elim
  run := fun A outer s H args us vs Q E _ _ _ _ ⟨_, _, _, _, _, _, _, z, _⟩ => (h _ _ _ _ z).elim
end DD
namespace DD
open PySem PySem.Spec PyProof.Rows L2
/-- a class below ValueError without an __init__ of its own -/
abbrev ValX (K : PySem.W.Frag) (C : Addr) : Prop := PySem.W.excIn K C [.type "ValueError", .type "Exception", .type "BaseException", .type "object"] "ValueError.__new__" = true
/-- what is asked of booleans -/
theorem no_d {α : Type} {a : α} {i : Decidable (a = a)} {Q : Prop} (h : @decide (a = a) i = false) : Q := absurd rfl (of_decide_eq_false h)
theorem no_nd {α : Type} {a : α} {i : Decidable (a = a)} {Q : Prop} (h : (!(@decide (a = a) i)) = true) : Q := no_d (i := i) (by cases e : @decide (a = a) i <;> simp_all)
theorem lr_pow {K} : LR2 K (rI CPow fun i j => .int (i ^ j.toNat)) (gI CPow fun i j => .int (i ^ j.toNat)) := lr_I fun _ _ _ _ => .int _
def dPub (t : DE) : DE := fun Δ st ok ex => t Δ st (fun s st1 => ∃ s' st2, Fin s st1 s' st2 ∧ ok s' st2) ex
theorem dpub {X : Cx} {W : WX} {e : Expr} {t : DE} (h : PEd X W e t) : PEd X W e (dPub t) := PE.imp h fun σ H Q q => by
  obtain ⟨Δ, st, I, ok, ex, wd, sl, h, c, cx⟩ := q
  refine low_go wd sl h (fun x st1 v I1 H1 h1 w1 s1 i1 => ?_) cx
  obtain ⟨s', st2, f, h2⟩ := h1
  obtain ⟨I2, w2, s2, i2⟩ := fin_ok w1 s1 i1 f
  exact c _ _ _ _ _ h2 w2 s2 i2
def dPubS (i : Nat) (t : DS) : DS := fun Δ st N => ∃ s s' st2, Δ[i]? = some s ∧ s ≠ .un ∧ Fin s st s' st2 ∧ t (Δ.set i s') st2 N
theorem spub {X : Cx} {W : WX} {s : Stmt} {t : DS} (i : Nat) (h : PSd X W s t) : PSd X W s (dPubS i t) := PS.imp h fun D σ H q => by
  obtain ⟨Δ, st, I, N, wd, sl, ⟨s, s', st2, hi, hu, f, h2⟩, e⟩ := q
  rcases sl.2 i s hi with z | ⟨v, hv, iv⟩
  · exact absurd z hu
  · obtain ⟨I2, w2, s2, i2⟩ := fin_ok wd (Stp.refl _ _ _) iv f
    have sl2 := (sl.mono s2.ii).set (i := i) i2
    have es : σ.set i (some v) = σ := by
      obtain ⟨hl, e⟩ := List.getElem?_eq_some_iff.mp hv
      rw [← e, List.set_getElem_self]
    rw [es] at sl2
    exact lowS_go w2 sl2 h2 (e.go s2)
def dPar (i j : Nat) (t : DA) : DS := fun Δ st N => t Δ st (fun xs st1 => match xs with
  | [x, y] => N.nx ((Δ.set i x).set j y) st1
  | _ => False) (exAt N Δ)
def dPar3 (i j l : Nat) (t : DA) : DS := fun Δ st N => t Δ st (fun xs st1 => match xs with
  | [x, y, z] => N.nx (((Δ.set i x).set j y).set l z) st1
  | _ => False) (exAt N Δ)
theorem lowS_par {K : PySem.W.Frag} {W : WX} {i j : Nat} {t : DA} : ∀ D σ H, lowS K (dPar i j t) W D σ H → tPar i j (lowA K t W) D σ H := by
  rintro D σ H ⟨Δ, st, I, N, wd, sl, h, e⟩
  refine lowA_go wd sl h (fun xs st1 vs I1 H1 h1 w1 s1 i1 => ?_) (cx_of sl e)
  split at h1
  · cases i1 with
    | cons a i1 =>
      cases i1 with
      | cons b i1 =>
        cases i1
        exact ⟨_, _, rfl, e.nx _ _ _ _ _ h1 w1 s1 (((sl.mono s1.ii).set a).set b)⟩
  · exact h1.elim
theorem lowS_par3 {K : PySem.W.Frag} {W : WX} {i j l : Nat} {t : DA} : ∀ D σ H, lowS K (dPar3 i j l t) W D σ H → tPar3 i j l (lowA K t W) D σ H := by
  rintro D σ H ⟨Δ, st, I, N, wd, sl, h, e⟩
  refine lowA_go wd sl h (fun xs st1 vs I1 H1 h1 w1 s1 i1 => ?_) (cx_of sl e)
  split at h1
  · cases i1 with
    | cons a i1 =>
      cases i1 with
      | cons b i1 =>
        cases i1 with
        | cons c i1 =>
          cases i1
          exact ⟨_, _, _, rfl, e.nx _ _ _ _ _ h1 w1 s1 ((((sl.mono s1.ii).set a).set b).set c)⟩
  · exact h1.elim
theorem spar {X : Cx} {W : WX} {x y : Str} {a b : Expr} {t : DA} {px py pt pos pt2 : Pos} {kt k2 : Nat} (i j : Nat) (hN : X.N.Nodup) (ha : PAd X W [a, b] t) (hc : X.calm = true := by rfl) (hi : X.N[i]? = some x := by rfl) (hj : X.N[j]? = some y := by rfl) (hij : i ≠ j := by decide)
    (hx : X.env.scope.names.lookup x = some .local := by rfl) (hy : X.env.scope.names.lookup y = some .local := by rfl) (hw : swappedStores [.Tuple [.Name x px, .Name y py] kt pt] (.Tuple [a, b] k2 pt2) X.env = pure (some [x, y]) := by rfl)
    (hs : swapsWithSole [.Tuple [.Name x px, .Name y py] kt pt] (.Tuple [a, b] k2 pt2) pos.line X.env = pure false := by rfl) : PSd X W (.Assign [.Tuple [.Name x px, .Name y py] kt pt] (.Tuple [a, b] k2 pt2) pos) (dPar i j t) :=
  PS.imp (ps_par hc hN hi hj hij hx hy ha hw hs) lowS_par
theorem spar3 {X : Cx} {W : WX} {x y z : Str} {a b c : Expr} {t : DA} {px py pz pt pos pt2 : Pos} {kt k2 : Nat} (i j l : Nat) (hN : X.N.Nodup) (ha : PAd X W [a, b, c] t) (hc : X.calm = true := by rfl) (hi : X.N[i]? = some x := by rfl) (hj : X.N[j]? = some y := by rfl) (hl : X.N[l]? = some z := by rfl) (hij : i ≠ j := by decide) (hil : i ≠ l := by decide) (hjl : j ≠ l := by decide)
    (hx : X.env.scope.names.lookup x = some .local := by rfl) (hy : X.env.scope.names.lookup y = some .local := by rfl) (hz : X.env.scope.names.lookup z = some .local := by rfl)
    (hw : swappedStores [.Tuple [.Name x px, .Name y py, .Name z pz] kt pt] (.Tuple [a, b, c] k2 pt2) X.env = pure (some [x, y, z]) := by rfl)
    (hs : swapsWithSole [.Tuple [.Name x px, .Name y py, .Name z pz] kt pt] (.Tuple [a, b, c] k2 pt2) pos.line X.env = pure false := by rfl) : PSd X W (.Assign [.Tuple [.Name x px, .Name y py, .Name z pz] kt pt] (.Tuple [a, b, c] k2 pt2) pos) (dPar3 i j l t) :=
  PS.imp (ps_par3 hc hN hi hj hl hij hil hjl hx hy hz ha hw hs) lowS_par3
end DD
namespace DD
open PySem PySem.Spec PyProof.Rows L2
def NoFrz (X : Cx) (d : Addr) : Prop := ∀ o' u', X.H_0 d ≠ some (.frz o' u')
def Lk (X : Cx) (H : Hp) (P : Hp → Prop) : Prop := P H ∨ ∃ d od u, H d = some (.frz od u) ∧ NoFrz X d ∧ P (upd H d u)
def endsU (X : Cx) (D : Ends) : Ends := { nx := fun σ H => Lk X H (D.nx σ), rt := fun v H => Lk X H (D.rt v), bk := fun σ H => Lk X H (D.bk σ), ct := fun σ H => Lk X H (D.ct σ) }
def wxU (X : Cx) (W : WX) : WX := fun cls d σ H => Lk X H (W cls d σ)
theorem Lk.at_ {X : Cx} {pins : List (Addr × Obj)} {σ : L2.St} {H : Hp} {s : Shared} {P : Hp → Prop} (I : L2.Inv X pins σ H s) (h : Lk X H P) : ∃ H', L2.Inv X pins σ H' s ∧ P H' ∧ ∀ a, H a = none → H' a = none := by
  rcases h with h | ⟨d, od, u, e, n, h⟩
  · exact ⟨H, I, h, fun _ q => q⟩
  · exact ⟨_, I.unlock e n, h, fun a q => by rw [upd_ne (fun z => by rw [z, e] at q; cases q)]; exact q⟩
theorem ps_unl {X : Cx} {st : Stmt} {t : TS} (h : PS X st t) : PS X st (fun D σ H => t (endsU X D) σ H) := by
  refine ⟨fun pins s σ H D I q => thn (h.run pins s σ H _ I q) fun f s1 r => ?_⟩
  cases f with
  | next =>
    obtain ⟨σ', H', J, r⟩ := r
    obtain ⟨H2, J2, r2, _⟩ := r.at_ J
    exact ⟨σ', H2, J2, r2⟩
  | brk =>
    obtain ⟨σ', H', J, r⟩ := r
    obtain ⟨H2, J2, r2, _⟩ := r.at_ J
    exact ⟨σ', H2, J2, r2⟩
  | cont =>
    obtain ⟨σ', H', J, r⟩ := r
    obtain ⟨H2, J2, r2, _⟩ := r.at_ J
    exact ⟨σ', H2, J2, r2⟩
  | ret v =>
    obtain ⟨x, σ', H', J, rv, r⟩ := r
    obtain ⟨H2, J2, r2, _⟩ := r.at_ J
    exact ⟨x, σ', H2, J2, rv, r2⟩
theorem pe_unl {X : Cx} {e : Expr} {t : TE} (h : PE X e t) : PE X e (fun σ H Q => t σ H fun v H' => Lk X H' (Q v)) :=
  ⟨fun pins s σ H Q I q => thn (h.run pins s σ H _ I q) fun v s1 ⟨x, H1, J, r, z⟩ => by
    obtain ⟨H2, J2, r2, _⟩ := z.at_ J
    exact ⟨x, H2, J2, r, r2⟩⟩
theorem takes_unl {X : Cx} {W : WX} (tk : Takes X W) : Takes X (wxU X W) := by
  rintro u s' ⟨a, B, sI, pins, σ, H, cls, d, e, I, nb, up, sky, na, os, ag, w⟩
  obtain ⟨H2, J2, r2, n2⟩ := w.at_ I
  exact tk _ _ ⟨a, B, sI, pins, σ, H2, cls, d, e, J2, nb, up, sky, n2 a na, os, ag, r2⟩
def lockE (X : Cx) (te : TE) : TE := fun σ H Q => te σ H fun x H1 => Q x H1 ∨ ∃ d u, H1 d = some u ∧ Mut (some u) ∧ ∀ od, NoFrz X d → Q x (upd H1 d (.frz od u))
theorem pe_lockE {X : Cx} {e : Expr} {t : TE} (h : PE X e t) : PE X e (lockE X t) :=
  ⟨fun pins s σ H Q I q => thn (h.run pins s σ H _ I q) fun v s1 ⟨x, H1, J, r, z⟩ => by
    rcases z with z | ⟨d, u, hd, mu, z⟩
    · exact ⟨x, H1, J, r, z⟩
    · obtain ⟨od, J2⟩ := J.lock hd mu
      exact ⟨x, _, J2, r, z od (J.nofrz hd mu)⟩⟩
section
variable {K : PySem.W.Frag} {st st' : Store} {I I' H H' : Hp}
theorem lock_w {a : Addr} {od : Obj} {u : HO} (w : Wd K st I H) (hu : (∃ k, u = .dK k) ∨ ∃ k, u = .dT k) (hI : I a = some u) (hH : H a = some u) : Wd K st I (upd H a (.frz od u)) := by
  refine ⟨fun b o h => ?_, fun p ob hp => ?_, w.nd⟩
  · by_cases e : b = a
    · subst e
      rw [hI] at h
      cases h
      exact .inr ⟨hu, od, upd_same⟩
    · rw [upd_ne e]
      exact w.sub b o h
  · obtain ⟨h1, o, h2, h3⟩ := w.own p ob hp
    have ne : p ≠ a := fun z => by rw [z, hI] at h1; cases h1
    exact ⟨h1, o, by rw [upd_ne ne]; exact h2, h3⟩
theorem notkey {a : Addr} {u : HO} (w : Wd K st I H) (hI : I a = some u) : a ∉ keys st := fun m => by
  obtain ⟨⟨p, ob⟩, h1, h2⟩ := List.mem_map.mp m
  have h2 : p = a := h2
  subst h2
  rw [(w.own p ob h1).1] at hI
  cases hI
theorem unlock_w {a : Addr} {od : Obj} {u : HO} (w : Wd K st I H) (hI : I a = some u) (hH : H a = some u) (w' : Wd K st' I' H') (s : Stp st I (upd H a (.frz od u)) st' I' H') :
    H' a = some (.frz od u) ∧ Wd K st' I' (upd H' a u) ∧ Stp st I H st' I' (upd H' a u) := by
  have hI' := s.ii a u hI
  refine ⟨s.hh a _ (notkey w hI) upd_same, ⟨fun b o h => ?_, fun p ob hp => ?_, w'.nd⟩, ⟨s.ii, fun b o hb h => ?_, fun b h => ?_, fun p h => ?_⟩⟩
  · by_cases e : b = a
    · subst e
      rw [hI'] at h
      cases h
      exact .inl upd_same
    · rw [upd_ne e]
      exact w'.sub b o h
  · obtain ⟨h1, o, h2, h3⟩ := w'.own p ob hp
    have ne : p ≠ a := fun z => by rw [z, hI'] at h1; cases h1
    exact ⟨h1, o, by rw [upd_ne ne]; exact h2, h3⟩
  · by_cases e : b = a
    · subst e
      rw [hH] at h
      cases h
      exact upd_same
    · rw [upd_ne e]
      exact s.hh b o hb (by rw [upd_ne e]; exact h)
  · rcases s.nw b h with q | q | q | ⟨vs, q⟩
    · exact .inl q
    · by_cases e : b = a
      · subst e
        rw [upd_same] at q
        cases q
      · rw [upd_ne e] at q
        exact .inr (.inl q)
    · exact .inr (.inr (.inl q))
    · by_cases e : b = a
      · subst e
        rw [upd_same] at q
        cases q
      · rw [upd_ne e] at q
        exact .inr (.inr (.inr ⟨vs, q⟩))
  · rcases s.ks p h with q | q
    · exact .inl q
    · by_cases e : p = a
      · subst e
        rw [upd_same] at q
        cases q
      · rw [upd_ne e] at q
        exact .inr q
theorem ends_U {X : Cx} {N : DN} {W : WX} {D : Ends} (e : Ends_ K st I H N W D) : Ends_ K st I H N (wxU X W) (endsU X D) :=
  ⟨fun Δ st' σ' I' H' h w s l => .inl (e.nx _ _ _ _ _ h w s l), fun x st' v I' H' h w s i => .inl (e.rt _ _ _ _ _ h w s i), fun Δ st' σ' I' H' h w s l => .inl (e.bk _ _ _ _ _ h w s l), fun Δ st' σ' I' H' h w s l => .inl (e.ct _ _ _ _ _ h w s l), fun x Δ st' cls d σ' I' H' h w s l xi => .inl (e.ex _ _ _ _ _ _ _ _ h w s l xi)⟩
theorem ends_L {X : Cx} {N : DN} {W : WX} {D : Ends} {a : Addr} {od : Obj} {u : HO} (e : Ends_ K st I H N W D) (w : Wd K st I H) (hI : I a = some u) (hH : H a = some u) (nf : NoFrz X a) : Ends_ K st I (upd H a (.frz od u)) N (wxU X W) (endsU X D) := by
  refine ⟨fun Δ st' σ' I' H' h w' s l => ?_, fun x st' v I' H' h w' s i => ?_, fun Δ st' σ' I' H' h w' s l => ?_, fun Δ st' σ' I' H' h w' s l => ?_, fun x Δ st' cls d σ' I' H' h w' s l xi => ?_⟩
  all_goals obtain ⟨z, w2, s2⟩ := unlock_w w hI hH w' s
  · exact .inr ⟨a, od, u, z, nf, e.nx _ _ _ _ _ h w2 s2 l⟩
  · exact .inr ⟨a, od, u, z, nf, e.rt _ _ _ _ _ h w2 s2 i⟩
  · exact .inr ⟨a, od, u, z, nf, e.bk _ _ _ _ _ h w2 s2 l⟩
  · exact .inr ⟨a, od, u, z, nf, e.ct _ _ _ _ _ h w2 s2 l⟩
  · exact .inr ⟨a, od, u, z, nf, e.ex _ _ _ _ _ _ _ _ h w2 s2 l xi⟩
theorem cont_U {X : Cx} {ok : OK} {Q : VK} (c : Cont K st I H ok Q) : Cont K st I H ok fun v H' => Lk X H' (Q v) := fun x st' v I' H' h w s i => .inl (c _ _ _ _ _ h w s i)
theorem cont_L {X : Cx} {ok : OK} {Q : VK} {a : Addr} {od : Obj} {u : HO} (c : Cont K st I H ok Q) (w : Wd K st I H) (hI : I a = some u) (hH : H a = some u) (nf : NoFrz X a) : Cont K st I (upd H a (.frz od u)) ok fun v H' => Lk X H' (Q v) := fun x st' v I' H' h w' s i => by
  obtain ⟨z, w2, s2⟩ := unlock_w w hI hH w' s
  exact .inr ⟨a, od, u, z, nf, c _ _ _ _ _ h w2 s2 i⟩
def dKey : Key → Dt
  | .inl i => .int i
  | .inr x => .str x
def keysD (ds : List (Key × Dt)) : List Sv := ds.map fun p => .dat (dKey p.1)
theorem isDk_len {I : Hp} : ∀ {ds : List (Key × Dt)} {vs : List (Key × V)}, IsDk K I ds vs → ds.length = vs.length
  | _, _, .nil => rfl
  | _, _, .cons _ r => congrArg Nat.succ (isDk_len r)
theorem isDk_at {I : Hp} : ∀ {ds : List (Key × Dt)} {vs : List (Key × V)} {i : Nat} {k : Key} {v : V}, IsDk K I ds vs → vs[i]? = some (k, v) → ∃ d, ds[i]? = some (k, d) ∧ IsD K I d v
  | _, _, 0, _, _, .cons h _, e => by
    cases e
    exact ⟨_, rfl, h⟩
  | _, _, i + 1, _, _, .cons _ r, e => by
    obtain ⟨d, h1, h2⟩ := isDk_at (i := i) r (by simpa using e)
    exact ⟨d, by simpa using h1, h2⟩
theorem wk_keys {a : Addr} {o : Obj} {ds : List (Key × Dt)} {vs : List (Key × V)} (w : Wd K st I H) (hk : a ∉ keys st) (h : H a = some (.frz o (.dK vs))) (hd : IsDk K I ds vs) : Wk K st I H (Itk a o vs) (keysD ds) := by
  refine ⟨_, _, by rw [keysD, List.length_map, isDk_len hd]; exact walk_keys, fun st2 I2 H2 w2 s2 => s2.hh a _ hk h, fun i H2 x H3 st2 I2 hi w2 s2 y => ?_⟩
  obtain ⟨rfl, k, v, hv, rfl⟩ := y
  obtain ⟨d, h1, _⟩ := isDk_at hd hv
  refine ⟨.dat (dKey k), I2, by rw [keysD, List.getElem?_map, h1]; rfl, w2, Stp.refl _ _ _, ?_⟩
  cases k with
  | inl i => exact .dat (.int i)
  | inr x => exact .dat (.str x)
def keysTD (ds : List (List Key × Dt)) : List Sv := ds.map fun p => .dat (.tup (p.1.map dKey))
theorem isDt_len {I : Hp} : ∀ {ds : List (List Key × Dt)} {vs : List (List Key × V)}, IsDt K I ds vs → ds.length = vs.length
  | _, _, .nil => rfl
  | _, _, .cons _ r => congrArg Nat.succ (isDt_len r)
theorem isDt_at {I : Hp} : ∀ {ds : List (List Key × Dt)} {vs : List (List Key × V)} {i : Nat} {k : List Key} {v : V}, IsDt K I ds vs → vs[i]? = some (k, v) → ∃ d, ds[i]? = some (k, d) ∧ IsD K I d v
  | _, _, 0, _, _, .cons h _, e => by
    cases e
    exact ⟨_, rfl, h⟩
  | _, _, i + 1, _, _, .cons _ r, e => by
    obtain ⟨d, h1, h2⟩ := isDt_at (i := i) r (by simpa using e)
    exact ⟨d, by simpa using h1, h2⟩
theorem keys_isD {I : Hp} : ∀ ks : List Key, IsDs K I (ks.map dKey) (ks.map kV)
  | [] => .nil
  | .inl i :: ks => .cons (.int i) (keys_isD ks)
  | .inr x :: ks => .cons (.str x) (keys_isD ks)
theorem wk_keysT {a : Addr} {o : Obj} {ds : List (List Key × Dt)} {vs : List (List Key × V)} (w : Wd K st I H) (hk : a ∉ keys st) (h : H a = some (.frz o (.dT vs))) (hd : IsDt K I ds vs) : Wk K st I H (Itkt a o vs) (keysTD ds) := by
  refine ⟨_, _, by rw [keysTD, List.length_map, isDt_len hd]; exact walk_keysT, fun st2 I2 H2 w2 s2 => s2.hh a _ hk h, fun i H2 x H3 st2 I2 hi w2 s2 y => ?_⟩
  obtain ⟨rfl, k, v, q, hv, rfl, hq⟩ := y
  obtain ⟨d, h1, _⟩ := isDt_at hd hv
  obtain ⟨w3, s3⟩ := know_tup w2 hq
  exact ⟨.dat (.tup (k.map dKey)), _, by rw [keysTD, List.getElem?_map, h1]; rfl, w3, s3, .dat (.tup (.inl upd_same) (keys_isD k))⟩
/-- for k in d, d a known dict -/
def dForK (te : DE) (g : DG) (body : DS) : DS := fun Δ st N => te Δ st (fun x st1 => match x with
  | .dat (.dic ds) => loopD (keysD ds) g body Δ st1 N
  | .dat (.dtt ds) => loopD (keysTD ds) g body Δ st1 N
  | _ => False) (exAt N Δ)
theorem lowS_forK {X : Cx} {W : WX} {te : DE} {g : DG} {body : DS} : ∀ D σ H, lowS K (dForK te g body) W D σ H → tFor (iKeys (lockE X (low K te W))) (lowG K g) (lowS K body (wxU X W)) (endsU X D) σ H := by
  rintro D σ H ⟨Δ, st, I, N, wd, sl, h, e⟩
  refine low_go wd sl h (fun x st1 v I1 H1 h1 w1 s1 i1 => ?_) (cx_of sl e)
  cases i1 with
  | own p => exact h1.elim
  | dat hd =>
    cases hd with
    | dic r hk =>
      rename_i ds vs a
      have e1 := e.go s1
      have l1 := sl.mono s1.ii
      rcases w1.sub.rd r with hH | ⟨o, hH⟩
      · rcases r with hI | ⟨o, hI⟩
        · refine .inr ⟨a, _, hH, trivial, fun od nf => ⟨a, od, rfl, .inl ⟨vs, upd_same, ?_⟩⟩⟩
          have w2 := lock_w (od := od) w1 (.inl ⟨_, rfl⟩) hI hH
          exact for_go (ends_L e1 w1 hI hH nf) w2 l1 h1 (wk_keys w2 (notkey w1 hI) upd_same hk)
        · rcases w1.sub a _ hI with q | ⟨q | q, _⟩
          · rw [hH] at q; cases q
          · obtain ⟨_, q⟩ := q; cases q
          · obtain ⟨_, q⟩ := q; cases q
      · have nk : a ∉ keys st1 := by
          rcases r with hI | ⟨o, hI⟩
          · exact notkey w1 hI
          · exact notkey w1 hI
        exact .inl ⟨a, o, rfl, .inl ⟨vs, hH, for_go (ends_U e1) w1 l1 h1 (wk_keys w1 nk hH hk)⟩⟩
    | dtt r hk =>
      rename_i ds vs a
      have e1 := e.go s1
      have l1 := sl.mono s1.ii
      rcases w1.sub.rd r with hH | ⟨o, hH⟩
      · rcases r with hI | ⟨o, hI⟩
        · refine .inr ⟨a, _, hH, trivial, fun od nf => ⟨a, od, rfl, .inr ⟨vs, upd_same, ?_⟩⟩⟩
          have w2 := lock_w (od := od) w1 (.inr ⟨_, rfl⟩) hI hH
          exact for_go (ends_L e1 w1 hI hH nf) w2 l1 h1 (wk_keysT w2 (notkey w1 hI) upd_same hk)
        · rcases w1.sub a _ hI with q | ⟨q | q, _⟩
          · rw [hH] at q; cases q
          · obtain ⟨_, q⟩ := q; cases q
          · obtain ⟨_, q⟩ := q; cases q
      · have nk : a ∉ keys st1 := by
          rcases r with hI | ⟨o, hI⟩
          · exact notkey w1 hI
          · exact notkey w1 hI
        exact .inl ⟨a, o, rfl, .inr ⟨vs, hH, for_go (ends_U e1) w1 l1 h1 (wk_keysT w1 nk hH hk)⟩⟩
    | _ => exact h1.elim
/-- [.. for k in d ..] -/
def dLcK (te : DE) (g : DG) (tt : DT) (el : DE) (vs : List Nat) : DE := fun Δ st ok ex => te Δ st (fun x st1 => match x with
  | .dat (.dic ds) => lcD g tt el vs (keysD ds) Δ st1 ok
  | .dat (.dtt ds) => lcD g tt el vs (keysTD ds) Δ st1 ok
  | _ => False) ex
theorem low_lcK {X : Cx} {W : WX} {te el : DE} {g : DG} {tt : DT} {ns : List Nat} : ∀ σ H Q, low K (dLcK te g tt el ns) W σ H Q → tLc (iKeys (lockE X (low K te W))) (lowGw K ns g) (lowT K tt W0) (low K el W0) ns σ H fun v H' => Lk X H' (Q v) := by
  rintro σ H Q ⟨Δ, st, I, ok, ex, wd, sl, h, c, cx⟩
  refine low_go wd sl h (fun x st1 v I1 H1 h1 w1 s1 i1 => ?_) cx
  cases i1 with
  | own p => exact h1.elim
  | dat hd =>
    cases hd with
    | dic r hk =>
      rename_i ds vs a
      have c1 := c.go s1
      have l1 := sl.mono s1.ii
      rcases w1.sub.rd r with hH | ⟨o, hH⟩
      · rcases r with hI | ⟨o, hI⟩
        · refine .inr ⟨a, _, hH, trivial, fun od nf => ⟨a, od, rfl, .inl ⟨vs, upd_same, ?_⟩⟩⟩
          have w2 := lock_w (od := od) w1 (.inl ⟨_, rfl⟩) hI hH
          exact lc_go w2 l1 h1 (wk_keys w2 (notkey w1 hI) upd_same hk) (cont_L c1 w1 hI hH nf)
        · rcases w1.sub a _ hI with q | ⟨q | q, _⟩
          · rw [hH] at q; cases q
          · obtain ⟨_, q⟩ := q; cases q
          · obtain ⟨_, q⟩ := q; cases q
      · have nk : a ∉ keys st1 := by
          rcases r with hI | ⟨o, hI⟩
          · exact notkey w1 hI
          · exact notkey w1 hI
        exact .inl ⟨a, o, rfl, .inl ⟨vs, hH, lc_go w1 l1 h1 (wk_keys w1 nk hH hk) (cont_U c1)⟩⟩
    | dtt r hk =>
      rename_i ds vs a
      have c1 := c.go s1
      have l1 := sl.mono s1.ii
      rcases w1.sub.rd r with hH | ⟨o, hH⟩
      · rcases r with hI | ⟨o, hI⟩
        · refine .inr ⟨a, _, hH, trivial, fun od nf => ⟨a, od, rfl, .inr ⟨vs, upd_same, ?_⟩⟩⟩
          have w2 := lock_w (od := od) w1 (.inr ⟨_, rfl⟩) hI hH
          exact lc_go w2 l1 h1 (wk_keysT w2 (notkey w1 hI) upd_same hk) (cont_L c1 w1 hI hH nf)
        · rcases w1.sub a _ hI with q | ⟨q | q, _⟩
          · rw [hH] at q; cases q
          · obtain ⟨_, q⟩ := q; cases q
          · obtain ⟨_, q⟩ := q; cases q
      · have nk : a ∉ keys st1 := by
          rcases r with hI | ⟨o, hI⟩
          · exact notkey w1 hI
          · exact notkey w1 hI
        exact .inl ⟨a, o, rfl, .inr ⟨vs, hH, lc_go w1 l1 h1 (wk_keysT w1 nk hH hk) (cont_U c1)⟩⟩
    | _ => exact h1.elim
end
theorem sforK {X : Cx} {W : WX} {tg iter : Expr} {ss : List Stmt} {pos : Pos} {te : DE} {g : DG} {t : DS} (hp : PassesOwn (model X.prog X.w) X.A X.env X.xe) (tk : Takes X W) (hi : PEd X W iter te) (hg : PGd X tg g) (hb : ∀ V : WX, Takes X V → PBd X V ss t) (hc : X.calm = true := by rfl)
    (hs : ∀ x, foldedSetIterable iter X.env x = pure x := by intro _; rfl) : PSd X W (.For tg iter ss [] pos) (dForK te g t) := PS.imp (ps_unl (ps_for hp hc (pi_keys (pe_lockE hi)) hg (hb _ (takes_unl tk)) hs)) lowS_forK
theorem dlcK {X : Cx} {W : WX} {elt tg iter : Expr} {ifs : List Expr} {scope : Scope} {pos : Pos} {ti te : DE} {g : DG} {tt : DT} (own : List (Str × Nat)) (hN : X.N.Nodup) (hi : PEd X W iter ti) (ok : BlkOk X.N X.env.scope scope own)
    (hg : ∀ (s : Shared) (H : Hp) (C : Addr) (cl : List (Str × Addr)) (fp : List Addr), PGw (X.blk s H scope (compEnvC scope cl C X.env) fp) (own.map (·.2)) tg g) (ht : ∀ (s : Shared) (H : Hp) (C : Addr) (cl : List (Str × Addr)) (fp : List Addr), PTsd (X.blk s H scope (compEnvC scope cl C X.env) fp) ifs tt)
    (he : ∀ (s : Shared) (H : Hp) (C : Addr) (cl : List (Str × Addr)) (fp : List Addr), PEd (X.blk s H scope (compEnvC scope cl C X.env) fp) W0 elt te) (hc : X.calm = true := by rfl) (hs : ∀ x, foldedSetIterable iter X.env x = pure x := by intro _; rfl) :
    PEd X W (.ListComp elt [⟨tg, iter, ifs, 0⟩] scope pos) (dLcK ti g tt te (own.map (·.2))) := PE.imp (pe_unl (pe_lc hc hN (pi_keys (pe_lockE hi)) ok hg ht he hs)) low_lcK
end DD
namespace DD
open PySem PySem.Spec PyProof.Rows L2
section
variable {K : PySem.W.Frag}
def rSortK : List V → Hp → VK → Prop := fun xs H Q => ∃ (a : Addr) (kvs : List (Key × V)) (ks : List Str), xs = [.ref a] ∧ Rd H a (.dK kvs) ∧ kvs.map (·.1) = ks.map Sum.inr ∧ ks.length < 64 ∧
    ∀ ys p, ys.Perm ks → sortedS ys = true → H p = none → Q (.ref p) (upd H p (.lst (ys.map V.str)))
/-- sorted(d), the keys texts -/
def gSortK : GC := fun xs st ok => match xs with
  | [x] => withK x st fun kvs => ∃ ks : List Str, kvs.map (·.1) = ks.map Sum.inr ∧ ks.length < 64 ∧ ∀ ys : List Str, ys.Perm ks → sortedS ys = true → ok (.dat (.lst (ys.map Dt.str))) st
  | _ => False
theorem rk_keys {I : Hp} : ∀ {kvs : List (Key × Sv)} {vs : List (Key × V)}, Paired (RK K I) kvs vs → kvs.map (·.1) = vs.map (·.1)
  | _, _, .nil => rfl
  | _, _, .cons r t => by
    rw [List.map_cons, List.map_cons, rk_keys t, r.1]
theorem strs_is {I : Hp} : ∀ ys : List Str, IsDs K I (ys.map Dt.str) (ys.map V.str)
  | [] => .nil
  | y :: ys => .cons (.str y) (strs_is ys)
theorem lc_sortK : LRC (K := K) rSortK gSortK := by
  intro xs st I H ok Q vs wd ix h c
  unfold gSortK at h
  split at h
  · obtain ⟨v, rfl, i⟩ := one_of rfl ix
    obtain ⟨a, us, kvs, rfl, hd, hp, ks, e1, e2, h⟩ := withK_rd wd i h
    refine ⟨a, us, ks, rfl, hd, by rw [← rk_keys hp]; exact e1, e2, fun ys p h1 h2 hq => ?_⟩
    obtain ⟨w2, s2⟩ := new_known (o := .lst (ys.map V.str)) wd hq
    exact c _ _ _ _ _ (h ys h1 h2) w2 s2 (.dat (.lst upd_same (strs_is ys)))
  · exact h.elim
end
end DD
namespace DD
open PySem PySem.Spec PyProof.Rows L2
theorem any_it {J : It} {n : Nat} {G : Hp → Prop} {Y : Nat → Hp → V → Hp → Prop} (w : Walk J n G Y) {H0 : Hp} {Qd : Hp → Prop} {B : (Hp → Prop) → V → Hp → Prop} (P : Nat → Hp → Prop) (h0 : P 0 H0) (hG : ∀ i H, P i H → G H)
    (hs : ∀ i x H H', i < n → P i H → Y i H x H' → B (P (i + 1)) x H') (hd : ∀ H, P n H → Qd H) :
    ∃ W : Nat → Nat → Hp → Prop, (∃ m, W 0 m H0) ∧ ∀ i m H, W i m H → (J.stop i H ∧ Qd H) ∨ (J.go i H ∧ ∃ N : Hp → Prop, (∀ H', N H' → ∃ m', m' < m ∧ W (i + 1) m' H') ∧ ∀ x H', J.yld i H x H' → B N x H') := by
  refine ⟨fun i m H => m + i = n ∧ P i H, ⟨n, rfl, h0⟩, fun i m H ⟨e, p⟩ => ?_⟩
  cases m with
  | zero =>
    have e : i = n := by omega
    subst e
    exact .inl ⟨w.stops H (hG _ _ p), hd H p⟩
  | succ m =>
    have l : i < n := by omega
    exact .inr ⟨w.goes i H l (hG _ _ p), P (i + 1), fun H' q => ⟨m, Nat.lt_succ_self m, by omega, q⟩, fun x H' y => hs i x H H' l p (w.yields i H x H' l (hG _ _ p) y)⟩
@[irreducible] def dcD (g : DG) (tt : DT) (tk tv : DE) (vs : List Nat) (xs : List Sv) (Δ : List Sv) (st1 : Store) (ok : OK) : Prop := ∀ D, D ∉ keys st1 → ∃ J : Nat → List (Key × Sv) → Store → Prop, J 0 [] st1 ∧
  (∀ i d acc st', xs[i]? = some d → J i acc st' → D ∉ keys st' → g d (wipeD Δ vs) ((D, .dic acc) :: st') fun Δ2 st2 => tt Δ2 st2 (fun b st3 =>
    (b = true → tk Δ2 st3 (fun y st4 => tv Δ2 st4 (fun z st5 => ∃ dy k acc' st6, y = .dat dy ∧ keyD dy = some k ∧ st5 = (D, .dic acc') :: st6 ∧ acc'.length < sizeLine ∧ J (i + 1) (putD acc' k z) st6) fun _ _ => False) fun _ _ => False) ∧
    (b = false → ∃ acc' st5, st3 = (D, .dic acc') :: st5 ∧ J (i + 1) acc' st5)) fun _ _ => False) ∧
  ∀ acc st', J xs.length acc st' → ∃ ds, AllK acc ds ∧ ok (.dat (.dic ds)) st'
theorem dcD_eq (g : DG) (tt : DT) (tk tv : DE) (vs : List Nat) (xs : List Sv) (Δ : List Sv) (st1 : Store) (ok : OK) : dcD g tt tk tv vs xs Δ st1 ok = (∀ D, D ∉ keys st1 → ∃ J : Nat → List (Key × Sv) → Store → Prop, J 0 [] st1 ∧
  (∀ i d acc st', xs[i]? = some d → J i acc st' → D ∉ keys st' → g d (wipeD Δ vs) ((D, .dic acc) :: st') fun Δ2 st2 => tt Δ2 st2 (fun b st3 =>
    (b = true → tk Δ2 st3 (fun y st4 => tv Δ2 st4 (fun z st5 => ∃ dy k acc' st6, y = .dat dy ∧ keyD dy = some k ∧ st5 = (D, .dic acc') :: st6 ∧ acc'.length < sizeLine ∧ J (i + 1) (putD acc' k z) st6) fun _ _ => False) fun _ _ => False) ∧
    (b = false → ∃ acc' st5, st3 = (D, .dic acc') :: st5 ∧ J (i + 1) acc' st5)) fun _ _ => False) ∧
  ∀ acc st', J xs.length acc st' → ∃ ds, AllK acc ds ∧ ok (.dat (.dic ds)) st') := by
  unfold dcD
  rfl
section
variable {K : PySem.W.Frag} {W : WX} {st : Store} {I H : Hp}
theorem dc_go {g : DG} {tt : DT} {tk tv : DE} {vs : List Nat} {Δ : List Sv} {ok : OK} {σ : L2.St} {Q : VK} {J : It} {xs : List Sv} (w1 : Wd K st I H) (sl : Sl K Δ I σ) (h1 : dcD g tt tk tv vs xs Δ st ok) (k1 : Wk K st I H J xs) (c : Cont K st I H ok Q) (D : Addr) (hD : H D = none) :
    ∃ W : Nat → Nat → Hp → Prop, (∃ m, W 0 m (upd H D (.dK []))) ∧ ∀ i m H, W i m H →
  (J.stop i H ∧ Q (.ref D) H) ∨ (J.go i H ∧ ∃ Nx : Hp → Prop, (∀ H', Nx H' → ∃ m', m' < m ∧ W (i + 1) m' H') ∧ ∀ x H', J.yld i H x H' → lowGw K vs g x (wipe σ vs) H' fun σ2 H2 => wipe σ2 vs = wipe σ vs ∧ lowT K tt W0 σ2 H2 fun b H3 =>
    if b = true then low K tk W0 σ2 H3 fun y H4 => low K tv W0 σ2 H4 fun z H5 => ∃ kvs k, y = kV k ∧ H5 D = some (.dK kvs) ∧ kvs.length < sizeLine ∧ Nx (upd H5 D (.dK (putK kvs k z))) else Nx H3) := by
  obtain ⟨np, w2, s2⟩ := new_own (o := .dK []) (ob := .dic []) w1 hD (.dic .nil)
  rw [dcD_eq] at h1
  obtain ⟨Jv, j0, jt, je⟩ := h1 D np
  obtain ⟨G, Y, wk, hg, hy⟩ := k1.w
  refine any_it wk (B := fun Nx x H' => lowGw K vs g x (wipe σ vs) H' fun σ2 H2 => wipe σ2 vs = wipe σ vs ∧ lowT K tt W0 σ2 H2 fun b H3 => if b = true then low K tk W0 σ2 H3 fun y H4 => low K tv W0 σ2 H4 fun z H5 => ∃ kvs k, y = kV k ∧ H5 D = some (.dK kvs) ∧ kvs.length < sizeLine ∧ Nx (upd H5 D (.dK (putK kvs k z))) else Nx H3)
    (fun i H' => ∃ acc st' I', Jv i acc st' ∧ Wd K ((D, .dic acc) :: st') I' H' ∧ Stp st I H ((D, .dic acc) :: st') I' H') ⟨[], st, I, j0, w2, s2⟩ (fun i H' ⟨_, _, I', _, w', s'⟩ => hg _ I' H' w' s') ?_ ?_
  · rintro i x H' H3 hi ⟨acc, st', I', hj, w', s'⟩ y
    obtain ⟨d, I3, hd, w3, s3, ix⟩ := hy i H' x H3 _ I' hi w' s' y
    have t3 := s'.trans s3
    refine ⟨d, _, _, I3, _, w3, sl_wipe (sl.mono t3.ii) vs, ix, jt i d acc st' hd hj (List.nodup_cons.mp w'.nd).1, fun Δ4 st4 σ4 I4 H4 h4 w4 s4 l4 e4 => ⟨by rw [e4, wipe_wipe], ?_⟩⟩
    have t4 := t3.trans s4
    refine lowT_go w4 l4 h4 (fun b st5 I5 H5 h5 w5 s5 => ?_) (fun _ _ _ _ _ _ z => z.elim)
    have t5 := t4.trans s5
    cases b with
    | false =>
      refine iteF ?_
      obtain ⟨acc', st7, rfl, hj'⟩ := h5.2 rfl
      exact ⟨acc', st7, I5, hj', w5, t5⟩
    | true =>
      refine iteT (low_go w5 (l4.mono s5.ii) (h5.1 rfl) (fun y st6 u I6 H6 h6 w6 s6 i6 => ?_) (fun _ _ _ _ _ _ z => z.elim))
      refine low_go w6 (l4.mono (s5.ii.trans s6.ii)) h6 (fun z st7 u2 I7 H7 h7 w7 s7 i7 => ?_) (fun _ _ _ _ _ _ z => z.elim)
      obtain ⟨dy, k, acc', st8, rfl, hk, rfl, hl, hj'⟩ := h7
      obtain ⟨_, o, ho, io⟩ := w7.own D _ List.mem_cons_self
      cases io with
      | @dic _ ws hs =>
        cases i6 with
        | dat i6 =>
          obtain ⟨w9, s9⟩ := set_own (j := 0) (o' := .dK (putK ws k u2)) (ob' := .dic (putD acc' k z)) w7 rfl (.dic (rk_putD i7 hs))
          exact ⟨ws, k, key_is i6 hk, ho, by rw [← paired_len hs]; exact hl, putD acc' k z, st8, I7, hj', w9, ((t5.trans s6).trans s7).trans s9⟩
  · rintro H' ⟨acc, st', I', hj, w', s'⟩
    obtain ⟨ds, ha, hok⟩ := je _ _ hj
    obtain ⟨_, o, ho, io⟩ := w'.own D _ List.mem_cons_self
    cases io with
    | dic hs =>
      obtain ⟨w9, s9, e9⟩ := pub_head w' ho s'
      exact c _ _ _ _ _ hok w9 s9 (.dat (.dic (.inl upd_same) ((isDk_of ha hs).mono e9)))
def dDc (it : DI) (g : DG) (tt : DT) (tk tv : DE) (vs : List Nat) : DE := fun Δ st ok ex => it Δ st (fun xs st1 => dcD g tt tk tv vs xs Δ st1 ok) ex
theorem low_dc {it : DI} {g : DG} {tt : DT} {tk tv : DE} {vs : List Nat} : ∀ σ H Q, low K (dDc it g tt tk tv vs) W σ H Q → tDc (lowI K it W) (lowGw K vs g) (lowT K tt W0) (low K tk W0) (low K tv W0) vs σ H Q := by
  rintro σ H Q ⟨Δ, st, I, ok, ex, wd, sl, h, c, cx⟩
  exact ⟨Δ, st, I, _, _, wd, sl, h, fun xs st1 I1 H1 J h1 w1 s1 k1 D hD => dc_go w1 (sl.mono s1.ii) h1 k1 (c.go s1) D hD, cx⟩
end
theorem ddc {X : Cx} {W : WX} {kx vx tg iter : Expr} {ifs : List Expr} {scope : Scope} {pos : Pos} {it : DI} {tk tv : DE} {g : DG} {tt : DT} (own : List (Str × Nat)) (hN : X.N.Nodup) (hi : PId X W tg iter it) (ok : BlkOk X.N X.env.scope scope own)
    (hg : ∀ (s : Shared) (H : Hp) (C : Addr) (cl : List (Str × Addr)) (fp : List Addr), PGw (X.blk s H scope (compEnvC scope cl C X.env) fp) (own.map (·.2)) tg g) (ht : ∀ (s : Shared) (H : Hp) (C : Addr) (cl : List (Str × Addr)) (fp : List Addr), PTsd (X.blk s H scope (compEnvC scope cl C X.env) fp) ifs tt)
    (hk : ∀ (s : Shared) (H : Hp) (C : Addr) (cl : List (Str × Addr)) (fp : List Addr), PEd (X.blk s H scope (compEnvC scope cl C X.env) fp) W0 kx tk) (he : ∀ (s : Shared) (H : Hp) (C : Addr) (cl : List (Str × Addr)) (fp : List Addr), PEd (X.blk s H scope (compEnvC scope cl C X.env) fp) W0 vx tv)
    (hc : X.calm = true := by rfl) (hs : ∀ x, foldedSetIterable iter X.env x = pure x := by intro _; rfl) : PEd X W (.DictComp kx vx [⟨tg, iter, ifs, 0⟩] scope pos) (dDc it g tt tk tv (own.map (·.2))) := PE.imp (pe_dc hc hN hi ok hg ht hk he hs) low_dc
end DD
namespace DD
open PySem PySem.Spec PyProof.Rows L2
open AutoSeq1 (wpAny_loadPart') in
theorem tup_new_src {prog : Program} {w : World} {r d : Addr} {n : Nat} {P : Nat → Value → Prop} {OK : Heap → Prop} (S : PySem.W.KdlSrc prog w "dict" r d n P OK) (hn : n ≤ sizeLine) :
    MeetsIn prog w (Builtin.«tuple.__new__» ⟨[.type "tuple", .ref r], []⟩) (fun A R s => A.handled = none ∧ OK s.heap ∧ (∃ o, s.heap.get? r = some o ∧ o.cls = .type "dict") ∧ ∀ (h' : Heap) (tk : Nat) (acc : Array Value), (∀ b o, s.heap.get? b = some o → h'.get? b = some o) → ItemsOf P acc n →
      R (.ok (.ret (.ref h'.objs.size))) { s with heap := h'.push { cls := .type "tuple", data := .seq acc }, toks := tk }) :=
  .of_wp fun A R s h => by
    obtain ⟨hp, g, dr, tk, os⟩ := s
    obtain ⟨hh, hok, ⟨o, ho, hc⟩, h⟩ := h
    have hsub := PySem.sub_tuple_self
    have hinit := PySem.init_tuple_lookup
    have hmh := PySem.madeHere_tuple
    have hT : Shared.TypeIs ⟨hp, g, dr, tk, os⟩ (.ref r) "dict" := S.type ⟨hp, g, dr, tk, os⟩ hok
    wp_walk using wpAny_loadPart' ho, wpAny_typeOf hT, PySem.W.kdu_collect (A := A.in1) S hh hok hn
    intro h' tk' acc hk items
    show wpAny _ _ (Builtin.Tuple.tupleExact acc.toList.toArray >>= fun v => ret v) _ _ _
    unfold Builtin.Tuple.tupleExact
    refine wpAny_bind (wpAny_newObj_type ?_ (by show acc.toList.toArray.size ≤ sizeLine; rw [Array.toArray_toList, items.1]; exact hn))
    refine wpAny_pure ⟨_, rfl, ?_⟩
    rw [Array.toArray_toList]
    exact h h' tk' acc hk items
def rTupK : List V → Hp → VK → Prop := fun xs H Q => ∃ p kvs, xs = [.ref p] ∧ Rd H p (.dK kvs) ∧ ∀ q, H q = none → Q (.ref q) (upd H q (.tup (kvs.map fun kv => kV kv.1)))
theorem call_tupleK {X : Cx} (hc : X.calm = true) : CallR X (.type "tuple") rTupK := by
  intro pins s σ H xs us Q I r h
  obtain ⟨p, kvs, e, hk, q⟩ := h
  subst e
  obtain ⟨u, eu, rx⟩ := vals1 r
  subst eu
  have eu : u = Value.ref p := rx
  subst eu
  obtain ⟨z, lo, vs, rk, hd⟩ : ObjOk X.prog X.w H s.heap p (.dK kvs) := hk.ok I.hok
  obtain ⟨ep, hat⟩ := hd.dictAt
  have hl : kvs.length = vs.length := Paired.length rk
  obtain ⟨o, ho, hco⟩ : ∃ o, s.heap.get? p = some o ∧ o.cls = .type "dict" := hd.typeIs
  refine PySem.callType_newIn PySem.F.called_tuple (by decide) (PySem.F.typeCall_tuple_1 _) (PySem.F.newCall_tuple_1 _) (fun obj => PySem.F.args_object_init_2 obj _) PySem.F.entry_tuple_new
    (tup_new_src (PySem.W.kdl_dict (knd := mixKind X.prog X.w) (kvs := vs) (ep := ep) lo) (by rw [← hl]; exact z)) ⟨I.ok.hd hc, hat, ⟨o, ho, hco⟩, fun h' tk acc keep items => ⟨⟨_, Heap.get?_push_size _ rfl, rfl⟩, ?_⟩⟩
  have rel : Vals (kvs.map fun kv => kV kv.1) acc.toList := by
    have e0 : acc.toList.length = kvs.length := by rw [Array.length_toList, items.1, hl]
    apply vals_of_at (by rw [List.length_map]; exact e0.symm)
    intro j x w h1 h2
    obtain ⟨k, y, hky, hi⟩ := items.2 j w (by rw [← Array.getElem?_toList]; exact h2)
    have e1 : (kvs.map (·.1))[j]? = some k := by rw [KV.keys rk, List.getElem?_map, hky]; rfl
    have e2 : (kvs.map fun kv => kV kv.1)[j]? = some (kV k) := by
      have e3 : (kvs.map fun kv => kV kv.1) = (kvs.map (·.1)).map kV := by rw [List.map_map]; rfl
      rw [e3, List.getElem?_map, e1]
      rfl
    rw [e2] at h1
    cases h1
    exact keyIs_rel hi
  have I1 : L2.Inv X pins σ H { s with heap := h', toks := tk } := I.kept keep
  have I2 := I1.laid (t' := tk) (h' := h'.push { cls := .type "tuple", data := .seq acc }) (a := h'.objs.size) (fun b o e => Heap.get?_push_of_some _ e) (Nat.le_refl _)
    (show ObjOk X.prog X.w _ _ _ (.tup (kvs.map fun kv => kV kv.1)) from ⟨by rw [List.length_map]; exact z, acc.toList, rel, by rw [Array.toArray_toList]; exact IsTup.new h' acc⟩)
  exact ⟨.ref h'.objs.size, _, I2, rfl, q _ (I1.hok.fresh (Nat.le_refl _))⟩
section
variable {K : PySem.W.Frag}
def gTupK : GC := fun xs st ok => match xs with
  | [x] => withK x st fun kvs => ok (.dat (.tup (kvs.map fun kv => match kv.1 with | .inl i => .int i | .inr z => .str z))) st
  | _ => False
theorem lc_tupK : LRC (K := K) rTupK gTupK := by
  intro xs st I H ok Q vs wd ix h c
  unfold gTupK at h
  split at h
  · obtain ⟨v, rfl, i⟩ := one_of rfl ix
    obtain ⟨a, us, kvs, rfl, hd, hp, h⟩ := withK_rd wd i h
    refine ⟨a, us, rfl, hd, fun q hq => ?_⟩
    obtain ⟨w2, s2⟩ := new_known (o := .tup (us.map fun kv => kV kv.1)) wd hq
    exact c _ _ _ _ _ h w2 s2 (.dat (.tup (.inl upd_same) (keys_rel hp _)))
  · exact h.elim
end
end DD
namespace DD
open PySem PySem.Spec PyProof.Rows L2
def dNeg (t : DE) : DE := fun Δ st ok ex => t Δ st (fun s st1 => match s with
  | .dat (.int i) => ok (.dat (.int (-i))) st1
  | _ => False) ex
theorem low_neg {K : PySem.W.Frag} {W : WX} {t : DE} : ∀ σ H Q, low K (dNeg t) W σ H Q → tUn (rU fun i => .int (-i)) (low K t W) σ H Q := by
  rintro σ H Q ⟨Δ, st, I, ok, ex, wd, sl, h, c, cx⟩
  refine low_go wd sl h (fun x st1 v I1 H1 h1 w1 s1 i1 => ?_) cx
  cases i1 with
  | own p => exact h1.elim
  | dat hd =>
    cases hd with
    | int i => exact ⟨i, rfl, (c.go s1).now w1 h1 (.dat (.int _))⟩
    | _ => exact h1.elim
theorem dneg {X : Cx} {W : WX} {e : Expr} {t : DE} {pos : Pos} (h : PEd X W e t) : PEd X W (.UnaryOp .USub e pos) (dNeg t) := PE.imp (pe_un un_neg h) low_neg
end DD
namespace DD
open PySem PySem.Spec PyProof.Rows L2
/-- what a comprehension over data has made: f tells each item's result, or none -/
structure LcJ {α : Type} (as : List α) (f : α → Option Dt) (st : Store) (i : Nat) (acc : List Sv) (st' : Store) : Prop where
  st : st' = st
  acc : acc = ((as.take i).filterMap f).map Sv.dat
theorem lcj_len {α : Type} {as : List α} {f : α → Option Dt} {st st' : Store} {i : Nat} {acc : List Sv} (h : LcJ as f st i acc st') (hi : i ≤ as.length) : acc.length ≤ i := by
  rw [h.acc, List.length_map]
  exact Nat.le_trans (List.length_filterMap_le _ _) (by rw [List.length_take]; omega)
theorem lc_yes {α : Type} {as : List α} {f : α → Option Dt} {st : Store} {i : Nat} {acc : List Sv} {D : Addr} {a : α} {r : Dt} (hl : as.length ≤ sizeLine) (ha : as[i]? = some a) (J : LcJ as f st i acc st) (hf : f a = some r) :
    ∃ acc' st5, ((D, Ob.lst acc) :: st) = (D, .lst acc') :: st5 ∧ acc'.length < sizeLine ∧ LcJ as f st (i + 1) (acc' ++ [.dat r]) st5 := by
  have hi := (List.getElem?_eq_some_iff.mp ha).1
  refine ⟨acc, st, rfl, Nat.lt_of_le_of_lt (lcj_len J (by omega)) (by omega), rfl, ?_⟩
  rw [J.acc, List.take_succ, ha, List.filterMap_append, List.map_append]
  simp [hf]
theorem lc_no {α : Type} {as : List α} {f : α → Option Dt} {st : Store} {i : Nat} {acc : List Sv} {D : Addr} {a : α} (ha : as[i]? = some a) (J : LcJ as f st i acc st) (hf : f a = none) :
    ∃ acc' st5, ((D, Ob.lst acc) :: st) = (D, .lst acc') :: st5 ∧ LcJ as f st (i + 1) acc' st5 := by
  refine ⟨acc, st, rfl, rfl, ?_⟩
  rw [J.acc, List.take_succ, ha, List.filterMap_append, List.map_append]
  simp [hf]
theorem lc_pure {α : Type} {g : DG} {tt : DT} {te : DE} {vs : List Nat} {xs : List Sv} {Δ : List Sv} {st : Store} {ok : OK} (as : List α) (e : α → Dt) (f : α → Option Dt) (hx : xs = as.map fun a => .dat (e a))
    (hb : ∀ i a D acc, as[i]? = some a → D ∉ keys st → LcJ as f st i acc st → g (.dat (e a)) (wipeD Δ vs) ((D, .lst acc) :: st) fun Δ2 st2 => tt Δ2 st2 (fun b st3 =>
      (b = true → te Δ2 st3 (fun y st4 => ∃ acc' st5, st4 = (D, .lst acc') :: st5 ∧ acc'.length < sizeLine ∧ LcJ as f st (i + 1) (acc' ++ [y]) st5) fun _ _ => False) ∧ (b = false → ∃ acc' st5, st3 = (D, .lst acc') :: st5 ∧ LcJ as f st (i + 1) acc' st5)) fun _ _ => False)
    (hk : ok (.dat (.lst (as.filterMap f))) st) : lcD g tt te vs xs Δ st ok := by
  subst hx
  rw [lcD_eq]
  intro D hD
  refine ⟨LcJ as f st, ⟨rfl, by simp⟩, ?_, ?_⟩
  · rintro i d acc st' hd J hD'
    obtain rfl := J.st
    rw [List.getElem?_map] at hd
    cases ea : as[i]? with
    | none => rw [ea] at hd; cases hd
    | some a =>
      rw [ea] at hd
      cases hd
      exact hb i a D acc ea hD' J
  · rintro acc st' J
    obtain rfl := J.st
    have e := J.acc
    rw [List.length_map, List.take_length] at e
    subst e
    exact ⟨_, .map _, hk⟩
/-- a loop that carries a state -/
theorem loop_fold {α σ : Type} {xs : List Sv} {g : DG} {body : DS} {Δ : List Sv} {st : Store} {N : DN} (as : List α) (e : α → Dt) (F : σ → α → σ) (s0 : σ) (R : σ → List Sv → Store → Prop) (hx : xs = as.map fun a => .dat (e a))
    (h0 : R s0 Δ st) (ht : ∀ (pre : List α) a post s Δ' st', as = pre ++ a :: post → s = pre.foldl F s0 → R s Δ' st' → g (.dat (e a)) Δ' st' fun Δ2 st2 => body Δ2 st2 { N with nx := R (F s a), ct := R (F s a), bk := N.nx })
    (he : ∀ Δ' st', R (as.foldl F s0) Δ' st' → N.nx Δ' st') : loopD xs g body Δ st N := by
  subst hx
  rw [loopD_eq]
  refine ⟨fun i => R ((as.take i).foldl F s0), h0, fun i d Δ' st' hd h => ?_, fun Δ' st' h => he _ _ (by rw [List.length_map, List.take_length] at h; exact h)⟩
  rw [List.getElem?_map] at hd
  cases ea : as[i]? with
  | none => rw [ea] at hd; cases hd
  | some a =>
    rw [ea] at hd
    cases hd
    have e2 : (as.take (i + 1)).foldl F s0 = F ((as.take i).foldl F s0) a := by rw [List.take_succ, ea, List.foldl_append]; rfl
    have e3 : as = as.take i ++ a :: as.drop (i + 1) := by
      obtain ⟨hl, e⟩ := List.getElem?_eq_some_iff.mp ea
      rw [← e, List.getElem_cons_drop, List.take_append_drop]
    dsimp only
    rw [e2]
    exact ht (as.take i) a _ _ Δ' st' e3 rfl h
/-- a loop that looks for the first item with p -/
structure FJ {α : Type} (as : List α) (p : α → Bool) (R : List Sv → Store → Prop) (i : Nat) (Δ : List Sv) (st : Store) : Prop where
  r : R Δ st
  n : (as.take i).find? p = none
theorem fj_no {α : Type} {as : List α} {p : α → Bool} {R : List Sv → Store → Prop} {i : Nat} {Δ Δ' : List Sv} {st st' : Store} {a : α} (ha : as[i]? = some a) (J : FJ as p R i Δ st) (hp : p a = false) (r : R Δ' st') : FJ as p R (i + 1) Δ' st' := by
  refine ⟨r, ?_⟩
  rw [List.take_succ, ha, List.find?_append, J.n]
  simp [hp]
theorem fj_yes {α : Type} {as : List α} {p : α → Bool} {R : List Sv → Store → Prop} {i : Nat} {Δ : List Sv} {st : Store} {a : α} (ha : as[i]? = some a) (J : FJ as p R i Δ st) (hp : p a = true) : as.find? p = some a := by
  have e3 : as = as.take i ++ a :: as.drop (i + 1) := by
    obtain ⟨hl, e⟩ := List.getElem?_eq_some_iff.mp ha
    rw [← e, List.getElem_cons_drop, List.take_append_drop]
  rw [e3, List.find?_append, J.n, List.find?_cons, hp]
  rfl
theorem loop_find {α : Type} {xs : List Sv} {g : DG} {body : DS} {Δ : List Sv} {st : Store} {N : DN} (as : List α) (e : α → Dt) (p : α → Bool) (R : List Sv → Store → Prop) (hx : xs = as.map fun a => .dat (e a))
    (h0 : R Δ st) (ht : ∀ i a Δ' st', as[i]? = some a → FJ as p R i Δ' st' → g (.dat (e a)) Δ' st' fun Δ2 st2 => body Δ2 st2 { N with nx := FJ as p R (i + 1), ct := FJ as p R (i + 1), bk := N.nx })
    (he : ∀ Δ' st', R Δ' st' → as.find? p = none → N.nx Δ' st') : loopD xs g body Δ st N := by
  subst hx
  rw [loopD_eq]
  refine ⟨FJ as p R, ⟨h0, rfl⟩, fun i d Δ' st' hd h => ?_, fun Δ' st' h => he _ _ h.r (by have := h.n; rw [List.length_map, List.take_length] at this; exact this)⟩
  rw [List.getElem?_map] at hd
  cases ea : as[i]? with
  | none => rw [ea] at hd; cases hd
  | some a =>
    rw [ea] at hd
    cases hd
    exact ht i a Δ' st' ea h
/-- list length -/
abbrev dI (i : Int) : Sv := .dat (.int i)
theorem atI_of {α : Type} {xs : List α} {i : Int} (h0 : 0 ≤ i) (h1 : i < xs.length) : ∃ x, xs[i.toNat]? = some x ∧ atI xs i = some x := by
  have hl : i.toNat < xs.length := by omega
  refine ⟨xs[i.toNat], List.getElem?_eq_getElem hl, ?_⟩
  unfold atI ixN
  rw [if_pos h0, if_pos h1]
  exact List.getElem?_eq_getElem hl
theorem atI_get {α : Type} {xs : List α} {i : Int} {x : α} (h0 : 0 ≤ i) (h1 : xs[i.toNat]? = some x) : atI xs i = some x := by
  have hl := (List.getElem?_eq_some_iff.mp h1).1
  unfold atI ixN
  rw [if_pos h0, if_pos (by omega)]
  exact h1
theorem set_self {α : Type} {st : List α} {j : Nat} {x : α} (h : st[j]? = some x) : st.set j x = st := by
  obtain ⟨hl, e⟩ := List.getElem?_eq_some_iff.mp h
  rw [← e, List.set_getElem_self]
theorem set_at {α : Type} {st : List α} {j : Nat} {x y : α} (h : st[j]? = some x) : (st.set j y)[j]? = some y := List.getElem?_set_self (List.getElem?_eq_some_iff.mp h).1
end DD
namespace SP
open PySem PySem.Spec PyProof.Rows L2 DD
/-- one to eight letters a to z -/
def isWord (z : Str) : Bool := (decide (1 ≤ (z.length : Int)) && decide ((z.length : Int) ≤ 8)) && z.cps.toList.all fun c => decide (97 ≤ c) && decide (c ≤ 122)
def wordD : Dt → Bool
  | .str z => isWord z
  | _ => false
def isNum (x : Dt) (a b : Int) : Bool := match x with
  | .int i => decide (a ≤ i) && decide (i ≤ b)
  | _ => false
/-- plain: a scalar, a short text -/
def Pln : Dt → Prop
  | .non => True
  | .bl _ => True
  | .int _ => True
  | .str z => z.length ≤ sizeLine
  | _ => False
def ctWord : Ct := fun ss st ok _ => ∃ x, ss = [.dat x] ∧ Pln x ∧ ok (.dat (.bl (wordD x))) st
def ctNum : Ct := fun ss st ok _ => ∃ (x : Dt) (a b : Int), ss = [.dat x, .dat (.int a), .dat (.int b)] ∧ Pln x ∧ ok (.dat (.bl (isNum x a b))) st
theorem le_a (c : Nat) : (!decide ((⟨#[c]⟩ : Str).cps.toList < (Str.ofString "a").cps.toList)) = decide (97 ≤ c) := by
  have e : (Str.ofString "a").cps.toList = [97] := by decide +kernel
  rw [e]
  have e2 : ([c] < [97]) ↔ c < 97 := by rw [List.cons_lt_cons_iff]; simp
  by_cases h : 97 ≤ c
  · rw [decide_eq_true h, decide_eq_false (fun z => absurd (e2.mp z) (by omega))]
    rfl
  · rw [decide_eq_false h, decide_eq_true (e2.mpr (by omega))]
    rfl
theorem le_z (c : Nat) : (!decide ((Str.ofString "z").cps.toList < (⟨#[c]⟩ : Str).cps.toList)) = decide (c ≤ 122) := by
  have e : (Str.ofString "z").cps.toList = [122] := by decide +kernel
  rw [e]
  have e2 : ([122] < [c]) ↔ 122 < c := by rw [List.cons_lt_cons_iff]; simp
  by_cases h : c ≤ 122
  · rw [decide_eq_true h, decide_eq_false (fun z => absurd (e2.mp z) (by omega))]
    rfl
  · rw [decide_eq_false h, decide_eq_true (e2.mpr (by omega))]
    rfl
def inI : Dt → Int
  | .int i => i
  | _ => 0
/-- the first wrong part of a sending -/
def wrongS (c s e b n l : Dt) : Option Str :=
  bif wordD c then bif wordD s then bif isNum e 1 999 then bif isNum b 0 1000000 then bif isNum n (inI b + 1) 1000600 then bif isNum l 0 60 then none
  else some "late" else some "end" else some "begin" else some "episode" else some "show" else some "channel"
/-- the first wrong part of a rule -/
def wrongR (s f l p b a : Dt) : Option Str :=
  bif wordD s then bif isNum f 1 999 then bif isNum l (inI f) 999 then bif isNum p 1 9 then bif isNum b 0 60 then bif isNum a 0 60 then none
  else some "after" else some "before" else some "priority" else some "last" else some "first" else some "show"
def optD : Option Str → Dt
  | some z => .str z
  | none => .non
abbrev six (f : Dt → Dt → Dt → Dt → Dt → Dt → Option Str) : Ct := fun ss st ok _ => ∃ a b c d e g, ss = [.dat a, .dat b, .dat c, .dat d, .dat e, .dat g] ∧ Pln a ∧ Pln b ∧ Pln c ∧ Pln d ∧ Pln e ∧ Pln g ∧ ok (.dat (optD (f a b c d e g))) st
def ctWrongS : Ct := six wrongS
def ctWrongR : Ct := six wrongR
theorem isNum_int {x : Dt} {a b : Int} (h : isNum x a b = true) : ∃ i, x = .int i ∧ a ≤ i ∧ i ≤ b := by
  cases x with
  | int i => simp [isNum] at h; exact ⟨i, rfl, h.1, h.2⟩
  | _ => cases h
def fldS (a b c d e g : Dt) : List (Str × Dt) := [("_channel", a), ("_show", b), ("_episode", c), ("_begin", d), ("_end", e), ("_late", g)]
def fldR (a b c d e g : Dt) : List (Str × Dt) := [("_show", a), ("_first", b), ("_last", c), ("_priority", d), ("_before", e), ("_after", g)]
/-- __init__ of a sending | rule -/
abbrev initC (C X : Addr) (f : Dt → Dt → Dt → Dt → Dt → Dt → Option Str) (fl : Dt → Dt → Dt → Dt → Dt → Dt → List (Str × Dt)) : Ct := fun ss st ok ex => ∃ p st0 a b c d e g, ss = [.own p, .dat a, .dat b, .dat c, .dat d, .dat e, .dat g] ∧ st = (p, .ins C []) :: st0 ∧
  Pln a ∧ Pln b ∧ Pln c ∧ Pln d ∧ Pln e ∧ Pln g ∧ (∀ z, f a b c d e g = some z → ex ⟨X, [("part", .str z)]⟩ st0) ∧ (f a b c d e g = none → ok (.dat .non) ((p, .ins C ((fl a b c d e g).map fun x => (x.1, .dat x.2))) :: st0))
def ctInitS (C X : Addr) : Ct := initC C X wrongS fldS
def ctInitR (C X : Addr) : Ct := initC C X wrongR fldR
/-- a property -/
def ctGet (C : Addr) (f : Str) : Ct := fun ss st ok _ => ∃ fs d, ss = [.dat (.ins C fs)] ∧ fs.lookup f = some d ∧ ok (.dat d) st
/-- two sendings, two rules: a word, .. -/
structure Snd where
  channel : Str
  show_ : Str
  episode : Int
  begin_ : Int
  end_ : Int
  late : Int
deriving DecidableEq
structure Rul where
  show_ : Str
  first : Int
  last : Int
  priority : Int
  before : Int
  after : Int
deriving DecidableEq
def Snd.d (C : Addr) (x : Snd) : Dt := .ins C (fldS (.str x.channel) (.str x.show_) (.int x.episode) (.int x.begin_) (.int x.end_) (.int x.late))
def Rul.d (C : Addr) (x : Rul) : Dt := .ins C (fldR (.str x.show_) (.int x.first) (.int x.last) (.int x.priority) (.int x.before) (.int x.after))
abbrev obH (q : Addr) (a i : Int) : Ob := .lst [dI a, .own q, dI i]
abbrev obX (xs : List Int) : Ob := .lst (xs.map dI)
@[irreducible] def ctNext : Ct := fun ss st ok _ => ∃ (p q : Addr) (a i : Int) (xs : List Int) (lim : Int) (j1 j2 : Nat), ss = [.own p, dI lim] ∧ 0 < lim ∧ lim < 2 ^ 30 ∧ j1 ≠ j2 ∧ st[j1]? = some (p, obH q a i) ∧ st[j2]? = some (q, obX xs) ∧ xs.length ≤ 63 ∧
  ∀ n a' i' xs', 0 ≤ n → n < lim → xs'.length = xs.length → ok (dI n) ((st.set j1 (p, obH q a' i')).set j2 (q, obX xs'))
theorem ctNext_eq {ss : List Sv} {st : Store} {ok : OK} {ex : EK} : ctNext ss st ok ex = ∃ (p q : Addr) (a i : Int) (xs : List Int) (lim : Int) (j1 j2 : Nat), ss = [.own p, dI lim] ∧ 0 < lim ∧ lim < 2 ^ 30 ∧ j1 ≠ j2 ∧ st[j1]? = some (p, obH q a i) ∧ st[j2]? = some (q, obX xs) ∧ xs.length ≤ 63 ∧
  ∀ n a' i' xs', 0 ≤ n → n < lim → xs'.length = xs.length → ok (dI n) ((st.set j1 (p, obH q a' i')).set j2 (q, obX xs')) := by
  unfold ctNext
  rfl
theorem next_len {ss : List Sv} {st : Store} {ok : OK} {ex : EK} (h : ctNext ss st ok ex) : ss.length = 2 := by
  rw [ctNext_eq] at h
  obtain ⟨p, q, a, i, xs, lim, j1, j2, rfl, _⟩ := h
  rfl
/-- a draw: the source stands first | behind one, two objects -/
theorem next_at {p q : Addr} {a i lim : Int} {xs : List Int} {st : Store} {ok : OK} {ex : EK} (l0 : 0 < lim) (l1 : lim < 2 ^ 30) (hx : xs.length ≤ 63)
    (h : ∀ n a' i' xs', 0 ≤ n → n < lim → xs'.length ≤ 63 → ok (dI n) ((p, obH q a' i') :: (q, obX xs') :: st)) : ctNext [.own p, dI lim] ((p, obH q a i) :: (q, obX xs) :: st) ok ex := by
  rw [ctNext_eq]
  exact ⟨p, q, a, i, xs, lim, 0, 1, rfl, l0, l1, by decide, rfl, rfl, hx, fun n a' i' xs' n0 n1 e => h n a' i' xs' n0 n1 (by omega)⟩
theorem next_at1 {x : Addr × Ob} {p q : Addr} {a i lim : Int} {xs : List Int} {st : Store} {ok : OK} {ex : EK} (l0 : 0 < lim) (l1 : lim < 2 ^ 30) (hx : xs.length ≤ 63)
    (h : ∀ n a' i' xs', 0 ≤ n → n < lim → xs'.length ≤ 63 → ok (dI n) (x :: (p, obH q a' i') :: (q, obX xs') :: st)) : ctNext [.own p, dI lim] (x :: (p, obH q a i) :: (q, obX xs) :: st) ok ex := by
  rw [ctNext_eq]
  exact ⟨p, q, a, i, xs, lim, 1, 2, rfl, l0, l1, by decide, rfl, rfl, hx, fun n a' i' xs' n0 n1 e => h n a' i' xs' n0 n1 (by omega)⟩
def ctMix : Ct := fun ss st ok _ => ∃ (ns : List Int) (seed : Int), ss = [.dat (.fls (ns.map Dt.int)), dI seed] ∧ ns.length ≤ 63 ∧ ∀ p q a, p ≠ q → p ∉ keys st → q ∉ keys st → ok (.own p) ((p, obH q a 0) :: (q, obX ns) :: st)
/-- plain data, n deep -/
inductive Pl : Nat → Dt → Prop
  | non (n : Nat) : Pl (n + 1) .non
  | bl (n : Nat) (b : Bool) : Pl (n + 1) (.bl b)
  | int (n : Nat) (i : Int) : Pl (n + 1) (.int i)
  | str (n : Nat) (z : Str) : Pl (n + 1) (.str z)
  | lst {n : Nat} {ds : List Dt} (h : ∀ d ∈ ds, Pl n d) (l : ds.length ≤ sizeLine) : Pl (n + 1) (.lst ds)
  | tup {n : Nat} {ds : List Dt} (h : ∀ d ∈ ds, Pl n d) (l : ds.length ≤ sizeLine) : Pl (n + 1) (.tup ds)
def ctAlike (n : Nat) : Ct := fun ss st ok _ => ∃ d, ss = [.dat d, .dat d] ∧ Pl n d ∧ ok (.dat (.bl true)) st
end SP
namespace DD
open PySem PySem.Spec PyProof.Rows L2
def rSortP (K : PySem.W.Frag) : List V → Hp → VK → Prop := fun vs H Q => ∃ (a : Addr) (xs : List V) (β : Type) (bs : List β) (enc : β → PyData) (R : V → β → Prop), vs = [.ref a] ∧ SqL K H a xs ∧ Paired R xs bs ∧ DpAll K H xs (bs.map enc) ∧
  PySem.W.AllAlike (bs.map enc) ∧ PySem.W.Sortable (bs.map enc) ∧ (∀ b ∈ bs, (enc b).depth ≤ 30) ∧ ∀ ys p, Paired R ys (bs.mergeSort (PySem.W.dataLe false enc)) → H p = none → Q (.ref p) (upd H p (.lst ys))
theorem each_of {β : Type} {R : V → β → Prop} : ∀ {xs : List V} {bs : List β} {its : List Value}, Paired R xs bs → Vals xs its → PySem.W.EachIs (fun v b => ∃ x, RelV x v ∧ R x b) its bs
  | _, _, _, .nil, .nil => .nil
  | _, _, _, .cons h t, .cons r rs => .cons ⟨_, r, h⟩ (each_of t rs)
theorem each_to {β : Type} {R : V → β → Prop} : ∀ {bs : List β} {its : List Value}, PySem.W.EachIs (fun v b => ∃ x, RelV x v ∧ R x b) its bs → ∃ xs, Paired R xs bs ∧ Vals xs its
  | _, _, .nil => ⟨[], .nil, .nil⟩
  | _, _, .cons ⟨x, r, h⟩ t => by
    obtain ⟨xs, a, b⟩ := each_to t
    exact ⟨x :: xs, .cons h a, .cons r b⟩
theorem cr_sortP {X : Cx} (hu : X.A.units + 65 < cLine) : CallR X (.builtin "sorted") (rSortP X.K) := by
  intro pins s σ H vs us Q I r h
  obtain ⟨a, xs, β, bs, enc, R, rfl, hs, hp, hd, hal, hk, hdep, q⟩ := h
  obtain ⟨its, rv, hl, hz⟩ := I.list hs
  rw [Vals.ref1 r]
  obtain ⟨as, hr⟩ := Dp.readsAll I _ _ _ hd rv
  have hlen : xs.length = bs.length := paired_len hp
  refine PySem.W.sorted_data (R := fun v b => ∃ x, RelV x v ∧ R x b) hl.isList (each_of hp rv) (PySem.W.readsAll_each enc hr) hal hk (by rw [← hlen]; exact hz) (fun b hb => by have := hdep b hb; omega) fun out ho eo => ?_
  obtain ⟨ys, py, vy⟩ := each_to eo
  obtain ⟨ep, he'⟩ := PyProof.Rows.sortedAll_at s.heap its (List.toArray out)
  have hly : ys.length ≤ sizeLine := by rw [vy.length, ho, ← hlen]; exact hz
  exact ⟨.ref _, upd H (s.heap.objs.size + 1) (.lst ys), I.laid (t' := s.toks) (fun _ _ => PyProof.Rows.sortedAll_old) (Nat.le_succ _) ⟨hly, out, ep, vy, he'⟩, rfl, q ys _ py (I.hok.fresh (Nat.le_succ _))⟩
def gSortP : GC := fun xs st ok => match xs with
  | [x] => withL x st fun ys => ∃ (β : Type) (bs : List β) (e : β → Dt) (enc : β → PyData), ys = bs.map (fun b => Sv.dat (e b)) ∧ (∀ b, PyOf (e b) (enc b)) ∧ PySem.W.AllAlike (bs.map enc) ∧ PySem.W.Sortable (bs.map enc) ∧ (∀ b ∈ bs, (enc b).depth ≤ 30) ∧
    ok (.dat (.lst ((bs.mergeSort (PySem.W.dataLe false enc)).map e))) st
  | _ => False
theorem one_arg {K : PySem.W.Frag} {I : Hp} {x : Sv} {vs : List V} (h : IsSs K I [x] vs) : ∃ v, vs = [v] ∧ IsS K I x v := by
  cases h with
  | cons a r => cases r; exact ⟨_, rfl, a⟩
theorem paired_map_l {K : PySem.W.Frag} {I : Hp} {β : Type} {e : β → Dt} : ∀ {bs : List β} {vs : List V}, IsSs K I (bs.map fun b => Sv.dat (e b)) vs → Paired (fun v b => IsD K I (e b) v) vs bs
  | [], _, .nil => .nil
  | b :: bs, _, .cons (.dat h) t => .cons h (paired_map_l t)
theorem paired_back_l {K : PySem.W.Frag} {I : Hp} {β : Type} {e : β → Dt} : ∀ {bs : List β} {vs : List V}, Paired (fun v b => IsD K I (e b) v) vs bs → IsDs K I (bs.map e) vs
  | [], _, .nil => .nil
  | b :: bs, _, .cons h t => .cons h (paired_back_l t)
theorem dps_of {K : PySem.W.Frag} {st : Store} {I H : Hp} (w : Wd K st I H) {β : Type} {e : β → Dt} {enc : β → PyData} (h : ∀ b, PyOf (e b) (enc b)) : ∀ {bs : List β} {vs : List V}, Paired (fun v b => IsD K I (e b) v) vs bs → DpAll K H vs (bs.map enc)
  | [], _, .nil => .nil
  | b :: bs, _, .cons a t => .cons ((h b).dp w a) (dps_of w h t)
theorem lc_sortP {K : PySem.W.Frag} : LRC (K := K) (rSortP K) gSortP := by
  intro xs st I H ok Q vs wd ix h c
  unfold gSortP at h
  split at h
  · obtain ⟨v, rfl, i⟩ := one_arg ix
    obtain ⟨a, us, ys, rfl, hs, hp, β, bs, e, enc, rfl, he, h1, h2, h3, h⟩ := withL_rd wd i h
    have hpp := paired_map_l hp
    refine ⟨a, us, β, bs, enc, _, rfl, hs, hpp, dps_of wd he hpp, h1, h2, h3, fun ys p hy hn => ?_⟩
    obtain ⟨w2, s2⟩ := new_known (o := .lst ys) wd hn
    exact c _ _ _ _ _ h w2 s2 (.dat (.lst upd_same ((paired_back_l hy).mono (Ex.new (wd.sub.none hn)))))
  · exact h.elim
theorem maxD_mem (x : PyData) : ∀ xs, PySem.W.maxD x xs ∈ x :: xs := by
  intro xs
  unfold PySem.W.maxD
  induction xs generalizing x with
  | nil => exact List.mem_cons_self
  | cons y ys ih =>
    rw [List.foldl_cons]
    by_cases h : PySem.W.dataLt x y = true
    · rw [if_pos h]
      have := ih y
      exact List.mem_cons_of_mem _ this
    · rw [if_neg h]
      have := ih x
      rcases List.mem_cons.mp this with e | e
      · rw [e]; exact List.mem_cons_self
      · exact List.mem_cons_of_mem _ (List.mem_cons_of_mem _ e)
def rBestP (K : PySem.W.Frag) (best : PyData → List PyData → PyData) : List V → Hp → VK → Prop := fun vs H Q => ∃ (a : Addr) (xs : List V) (β : Type) (b0 : β) (bs : List β) (enc : β → PyData) (R : V → β → Prop), vs = [.ref a] ∧ SqL K H a xs ∧ Paired R xs (b0 :: bs) ∧ DpAll K H xs ((b0 :: bs).map enc) ∧
  PySem.W.AlikeAll ((b0 :: bs).map enc) ∧ PyData.depthAll ((b0 :: bs).map enc) ≤ 30 ∧ ∀ x b, b ∈ b0 :: bs → R x b → enc b = best (enc b0) (bs.map enc) → Q x H
theorem best_at {X : Cx} {pins : List (Addr × Obj)} {σ : L2.St} {H : Hp} {s : Shared} {β : Type} {R : V → β → Prop} {enc : β → PyData} {xs : List V} {bs : List β} {its : List Value} {as : List Addr} {d : PyData} (hp : Paired R xs bs) (rv : Vals xs its) (hr : ReadsAll s.heap its (bs.map enc) as)
    (ha : PySem.W.AlikeAll (bs.map enc)) (hd : d ∈ bs.map enc) {i : Nat} {v : Value} {h' : Heap} {as' : List Addr} (hv : its[i]? = some v) (r : Reads h' v d as') (k : ∀ b o, s.heap.get? b = some o → h'.get? b = some o) : ∃ x b, b ∈ bs ∧ R x b ∧ RelV x v ∧ enc b = d := by
  have key : ∀ {xs : List V} {bs : List β} {its : List Value} {as : List Addr}, Paired R xs bs → Vals xs its → ReadsAll s.heap its (bs.map enc) as → ∀ {i : Nat}, its[i]? = some v → ∃ x b as'', b ∈ bs ∧ R x b ∧ RelV x v ∧ Reads s.heap v (enc b) as'' := by
    intro xs bs its as hp
    induction hp generalizing its as with
    | nil => intro rv hr i hv; cases rv; simp at hv
    | cons h t ih =>
      intro rv hr i hv
      cases rv with
      | cons r0 rs =>
        cases hr with
        | cons q0 qs =>
          cases i with
          | zero =>
            simp at hv
            subst hv
            exact ⟨_, _, _, List.mem_cons_self, h, r0, q0⟩
          | succ i =>
            obtain ⟨x, b, as'', h1, h2, h3, h4⟩ := ih rs qs (i := i) (by simpa using hv)
            exact ⟨x, b, as'', List.mem_cons_of_mem _ h1, h2, h3, h4⟩
  obtain ⟨x, b, as'', h1, h2, h3, h4⟩ := key hp rv hr hv
  exact ⟨x, b, h1, h2, h3, PySem.W.alike_unique (h := h') _ _ v _ _ (ha.1 _ (List.mem_map.mpr ⟨b, h1, rfl⟩) _ hd) (PySem.W.reads_keeps k h4) r⟩
theorem cr_maxP {X : Cx} (hc : X.calm = true) (hu : X.A.units + 65 < cLine) : CallR X (.builtin "max") (rBestP X.K PySem.W.maxD) := by
  intro pins s σ H vs us Q I r h
  obtain ⟨a, xs, β, b0, bs, enc, R, rfl, hs, hp, hd, hal, hdep, q⟩ := h
  obtain ⟨its, rv, hl, hz⟩ := I.list hs
  rw [Vals.ref1 r]
  obtain ⟨as, hr⟩ := Dp.readsAll I _ _ _ hd rv
  refine PySem.W.max_list_data (x := enc b0) (xs := bs.map enc) (I.ok.hd hc) hl.isList hr hal (by rw [List.map_cons] at hdep; omega) fun i v h' tk as' hv hrd hk => ?_
  obtain ⟨x, b, h1, h2, h3, h4⟩ := best_at (X := X) (pins := pins) (σ := σ) (H := H) hp rv hr hal (maxD_mem _ _) (by simpa using hv) hrd hk
  exact ⟨x, H, I.kept hk, h3, q x b h1 h2 h4⟩
def gBestP (best : PyData → List PyData → PyData) : GC := fun xs st ok => match xs with
  | [x] => withL x st fun ys => ∃ (β : Type) (b0 : β) (bs : List β) (e : β → Dt) (enc : β → PyData), ys = (b0 :: bs).map (fun b => Sv.dat (e b)) ∧ (∀ b, PyOf (e b) (enc b)) ∧ PySem.W.AlikeAll ((b0 :: bs).map enc) ∧ PyData.depthAll ((b0 :: bs).map enc) ≤ 30 ∧
    ∀ b, b ∈ b0 :: bs → enc b = best (enc b0) (bs.map enc) → ok (.dat (e b)) st
  | _ => False
theorem lc_bestP {K : PySem.W.Frag} {best : PyData → List PyData → PyData} : LRC (K := K) (rBestP K best) (gBestP best) := by
  intro xs st I H ok Q vs wd ix h c
  unfold gBestP at h
  split at h
  · obtain ⟨v, rfl, i⟩ := one_arg ix
    obtain ⟨a, us, ys, rfl, hs, hp, β, b0, bs, e, enc, rfl, he, h1, h2, h⟩ := withL_rd wd i h
    have hpp := paired_map_l hp
    exact ⟨a, us, β, b0, bs, enc, _, rfl, hs, hpp, dps_of wd he hpp, h1, h2, fun x b hb hx hm => c.now wd (h b hb hm) (.dat hx)⟩
  · exact h.elim
end DD
namespace DD
open PySem PySem.Spec PyProof.Rows L2
def putAll {κ : Type} [DecidableEq κ] (kvs : List (κ × V)) : List (κ × V) := kvs.foldl (fun acc kv => putK acc kv.1 kv.2) []
theorem kt_all {H : Hp} : ∀ {kvs : List (List Key × V)} {xs : List (List Key × Addr × Value)} {acc : List (List Key × V)} {as : List (List Key × Addr × Value)}, KT H kvs xs → KT H acc as → KT H (kvs.foldl (fun acc kv => putK acc kv.1 kv.2) acc) (storedAllH as xs)
  | _, _, _, _, .nil, h => h
  | kv :: _, (k, b, u) :: _, _, _, .cons r t, h => by
    obtain ⟨e, hb, rv⟩ := r
    have e : kv.1 = k := e
    subst e
    have z := kt_all t (h.put kv.1 hb rv)
    exact z
theorem pairsT_of {X : Cx} {pins : List (Addr × Obj)} {σ : L2.St} {H : Hp} {s : Shared} (I : L2.Inv X pins σ H s) : ∀ {ps : List Addr} {kvs : List (List Key × V)}, Paired (fun p kv => ∃ b, SqT X.K H p [.ref b, kv.2] ∧ H b = some (.tup (kv.1.map kV))) ps kvs →
    ∃ prs : List (List Key × Addr × Value), KT H kvs prs ∧ prs.length = ps.length ∧ ∀ (j : Nat) (q : List Key × Addr × Value), prs[j]? = some q → ∃ T, ps[j]? = some T ∧ IsTup s.heap T #[.ref q.2.1, q.2.2]
  | _, _, .nil => ⟨[], .nil, rfl, fun j q e => by simp at e⟩
  | _, _, .cons (a := p) (b := kv) ⟨b, h, hb⟩ t => by
    obtain ⟨prs, r, hl, hp⟩ := pairsT_of I t
    obtain ⟨its, rv, ht, _⟩ := I.tuple h
    obtain ⟨u, y, ei, ru, ry⟩ := vals2 rv
    subst ei
    cases ru
    refine ⟨(kv.1, b, y) :: prs, .cons ⟨rfl, hb, ry⟩ r, by rw [List.length_cons, List.length_cons, hl], fun j q e => ?_⟩
    cases j with
    | zero =>
      have e' : (kv.1, b, y) = q := Option.some.inj e
      subst e'
      exact ⟨p, rfl, ht⟩
    | succ j =>
      obtain ⟨T, e1, e2⟩ := hp j q (by simpa using e)
      exact ⟨T, by simpa using e1, e2⟩
/-- dict(xs) of a list of pairs, the keys tuples -/
theorem call_dictPT {X : Cx} (hcalm : X.calm = true) (hu : X.A.units + 65 < cLine) : CallR X (.type "dict") (fun xs H Q => ∃ (a : Addr) (ps : List Addr) (kvs : List (List Key × V)), xs = [.ref a] ∧ SqL X.K H a (ps.map V.ref) ∧ Paired (fun p kv => ∃ b, SqT X.K H p [.ref b, kv.2] ∧ H b = some (.tup (kv.1.map kV))) ps kvs ∧
    ∀ p, H p = none → Q (.ref p) (upd H p (.dT (putAll kvs)))) := by
  intro pins s σ H xs us Q I r q
  obtain ⟨a, ps, kvs, ex, hq, hp, q⟩ := q
  subst ex
  obtain ⟨u, eu, rx⟩ := vals1 r
  subst eu
  cases rx
  obtain ⟨its, rv, pl, hz⟩ := I.list hq
  have ei := refs_at rv
  subst ei
  rw [List.length_map] at hz
  obtain ⟨prs, rel, hl, hpr⟩ := pairsT_of I hp
  obtain ⟨o, n, ho, hc, hd, hdat⟩ := pl
  have P := PairArg.list (prog := X.prog) (w := X.w) a (ps.map Value.ref).toArray (fun j => ps.getD j 0) (prs.map fun q => (Value.ref q.2.1, q.2.2))
  have hn : (prs.map fun q => (Value.ref q.2.1, q.2.2)).length = ps.length := by rw [List.length_map, hl]
  have hki : ∀ x ∈ prs, ∃ ks : List Key, x.1 = ks ∧ H x.2.1 = some (.tup (ks.map kV)) := by
    have all : ∀ {l : List (List Key × V)} {m : List (List Key × Addr × Value)}, KT H l m → ∀ x ∈ m, H x.2.1 = some (.tup (x.1.map kV)) := by
      intro l m q
      induction q with
      | nil => intro x hx; exact nomatch hx
      | @cons p q ps qs hq t ih =>
        intro x hx
        rcases List.mem_cons.mp hx with e | hx
        · subst e
          rw [← hq.1]
          exact hq.2.1
        · exact ih x hx
    exact fun x hx => ⟨x.1, rfl, all rel x hx⟩
  refine call_dict_pairsH (knd := tupleKind (mixKind X.prog X.w)) (ps := prs) P (I.ok.hd hcalm) (show X.A.units + 1 + 1 < cLine by omega) ⟨⟨o, n, ho, hc, hd, hdat⟩, ⟨by simp [hl], fun j k v e => ?_⟩⟩ ⟨by rw [hn, hl], fun i key v e => ?_⟩ (fun h' hk x hx => ?_) (by rw [hn]; exact hz) fun h' tk hd' k => ?_
  · rw [List.getElem?_map] at e
    cases eq : prs[j]? with
    | none => rw [eq] at e; cases e
    | some z =>
      rw [eq] at e
      cases e
      obtain ⟨T, e1, e2⟩ := hpr j z eq
      refine ⟨by simp [e1], ?_⟩
      show PairAt s.heap (ps.getD j 0) _ _
      rw [List.getD_eq_getElem?_getD, e1]
      exact .inl e2
  · have e : (prs.map fun q => (Value.ref q.2.1, q.2.2))[i]? = some (key, v) := e
    rw [List.getElem?_map] at e
    cases eq : prs[i]? with
    | none => rw [eq] at e; cases e
    | some z =>
      rw [eq] at e
      cases e
      exact ⟨z.1, z.2.1, rfl, rfl⟩
  · obtain ⟨ks, e1, e2⟩ := hki x hx
    obtain ⟨ob, items, m, h1, h2, h3, h4⟩ := key_of (w := X.w) (P := X.prog) I.hok e2
    rw [e1]
    exact ⟨ob, items, m, hk _ _ (Nat.ne_of_lt (Heap.lt_size h1)) (by simp) h1, h2, h3, h4⟩
  · have hm : (s.heap.objs.size == sysModules) = false := beq_eq_false_iff_ne.mpr (Nat.ne_of_gt I.big)
    have hfr := I.hok.fresh (Nat.le_refl s.heap.objs.size)
    have kt := kt_all rel (.nil : KT H [] [])
    have hlen : (putAll kvs).length ≤ sizeLine := by
      have e1 : (putAll kvs).length = (storedAllH [] prs).length := kt.length
      have e2 := storedAllH_length prs []
      rw [List.length_nil, Nat.zero_add, hl] at e2
      omega
    obtain ⟨od, es, ep, g1, g2, g3, g4, g5, g6⟩ := hd'
    exact ⟨.ref s.heap.objs.size, upd H s.heap.objs.size (.dT (putAll kvs)), I.laid (t' := tk) (fun b u e => k b u (by simp) e) (Nat.le_refl _) (show ObjOk X.prog X.w _ _ _ (.dT (putAll kvs)) from ⟨hlen, hm, storedAllH [] prs, kt.keeps fun b ys e => by
      rw [upd_ne (ne_of_none e hfr)]; exact e, od, es, ep, g1, g2, g3, g4, g6⟩), rfl, q _ hfr⟩
def keysOf : List Dt → Option (List Key)
  | [] => some []
  | d :: ds => match keyD d, keysOf ds with
    | some k, some ks => some (k :: ks)
    | _, _ => none
def keyT : Dt → Option (List Key)
  | .tup (d :: ds) => keysOf (d :: ds)
  | _ => none
def withKT (x : Sv) (st : Store) (k : List (List Key × Sv) → Prop) : Prop := match x with
  | .dat (.dtt ds) => k (ds.map fun kv => (kv.1, Sv.dat kv.2))
  | .own p => ∃ (j : Nat) (xs : List (List Key × Sv)), st[j]? = some (p, Ob.dtt xs) ∧ k xs
  | _ => False
section
variable {K : PySem.W.Frag} {W : WX} {st : Store} {I H : Hp}
theorem withKT_rd {x : Sv} {v : V} {k : List (List Key × Sv) → Prop} (w : Wd K st I H) (i : IsS K I x v) (h : withKT x st k) : ∃ a vs xs, v = .ref a ∧ Rd H a (.dT vs) ∧ Paired (RK K I) xs vs ∧ k xs := by
  cases i with
  | own p =>
    obtain ⟨j, xs, hj, hk⟩ := h
    obtain ⟨o, ho, io⟩ := own_at w hj
    cases io with
    | dtt hs => exact ⟨p, _, xs, rfl, .inl ho, hs, hk⟩
  | dat hd =>
    cases hd with
    | dtt h1 h2 => exact ⟨_, _, _, rfl, w.sub.rd h1, rkt_of h2, h⟩
    | _ => exact h.elim
theorem keys_are : ∀ {ds : List Dt} {vs : List V} {ks : List Key}, IsDs K I ds vs → keysOf ds = some ks → vs = ks.map kV
  | [], _, _, .nil, e => by cases e; rfl
  | d :: ds, _, _, .cons h t, e => by
    unfold keysOf at e
    cases e1 : keyD d with
    | none => rw [e1] at e; cases e
    | some k =>
      cases e2 : keysOf ds with
      | none => rw [e1, e2] at e; cases e
      | some ks =>
        rw [e1, e2] at e
        cases e
        rw [key_is h e1, keys_are t e2]
        rfl
theorem keyT_ne {ds : List Dt} {k : List Key} (e : keyT (.tup ds) = some k) : k ≠ [] := by
  rintro rfl
  cases ds with
  | nil => cases e
  | cons d ds =>
    have e : keysOf (d :: ds) = some [] := e
    unfold keysOf at e
    cases e1 : keyD d <;> cases e2 : keysOf ds <;> rw [e1, e2] at e <;> simp at e
theorem keyT_ks {ds : List Dt} {k : List Key} (e : keyT (.tup ds) = some k) : keysOf ds = some k := by
  cases ds with
  | nil => cases e
  | cons d ds => exact e
theorem keyT_is {d : Dt} {v : V} {k : List Key} (w : Wd K st I H) (h : IsD K I d v) (e : keyT d = some k) : ∃ b, v = .ref b ∧ I b = some (.tup (k.map kV)) ∧ H b = some (.tup (k.map kV)) := by
  cases h with
  | tup h1 h2 =>
    have hne := keyT_ne e
    have e0 : keysOf _ = some k := keyT_ks e
    have e' := keys_are h2 e0
    subst e'
    rcases h1 with h1 | ⟨z, _⟩
    · exact ⟨_, rfl, h1, w.sub.at h1 (by intro k z; cases z) (by intro k z; cases z)⟩
    · cases k with
      | nil => exact absurd rfl hne
      | cons => cases z
  | _ => cases e
/-- d[k], there -/
def dTGet (td ty : DE) : DE := fun Δ st ok ex => td Δ st (fun x st1 => ty Δ st1 (fun y st2 => match y with
  | .dat dy => withKT x st2 fun xs => ∃ k s, keyT dy = some k ∧ getD xs k = some s ∧ ok s st2
  | _ => False) ex) ex
def dTPut (td ty tv : DE) : DS := fun Δ st N => tv Δ st (fun v st1 => td Δ st1 (fun x st2 => ty Δ st2 (fun y st3 => match x, y with
  | .own p, .dat dy => ∃ (j : Nat) (xs : List (List Key × Sv)) (k : List Key), st3[j]? = some (p, Ob.dtt xs) ∧ keyT dy = some k ∧ xs.length < sizeLine ∧ N.nx Δ (st3.set j (p, .dtt (putD xs k v)))
  | _, _ => False) (exAt N Δ)) (exAt N Δ)) (exAt N Δ)
def dTNew : DE := fun _ st ok _ => ∀ p, p ∉ keys st → ok (.own p) ((p, .dtt []) :: st)
/-- d.get(k, x) -/
def dTGet2 (td ty tx : DE) : DE := fun Δ st ok ex => td Δ st (fun x st1 => withKT x st1 (fun _ => True) ∧ ty Δ st1 (fun y st2 => tx Δ st2 (fun z st3 => match y with
  | .dat dy => withKT x st3 fun xs => ∃ k, keyT dy = some k ∧ ok ((getD xs k).getD z) st3
  | _ => False) ex) ex) ex
theorem low_tget {td ty : DE} : ∀ σ H Q, low K (dTGet td ty) W σ H Q → tDGet (low K td W) (low K ty W) σ H Q := by
  rintro σ H Q ⟨Δ, st, I, ok, ex, wd, sl, h, c, cx⟩
  refine low_go wd sl h (fun x st1 v I1 H1 h1 w1 s1 i1 => ?_) cx
  refine low_go w1 (sl.mono s1.ii) h1 (fun y st2 u I2 H2 h2 w2 s2 i2 => ?_) (cx.go s1)
  cases i2 with
  | own p => exact h2.elim
  | dat hy =>
    obtain ⟨a, vs, xs, rfl, hd, hp, k, s, hk, hg, h2⟩ := withKT_rd w2 (i1.mono s2.ii) h2
    obtain ⟨v', hv, iv⟩ := (rk_get hp).1 s hg
    obtain ⟨b, rfl, _, hb⟩ := keyT_is w2 hy hk
    exact ⟨a, v', rfl, .inr ⟨vs, k, b, hd, rfl, hb, by rw [getD_V]; exact hv.symm⟩, (c.go (s1.trans s2)).now w2 h2 iv⟩
theorem lowS_tput {td ty tv : DE} : ∀ D σ H, lowS K (dTPut td ty tv) W D σ H → sDPut (low K td W) (low K ty W) (low K tv W) D σ H := by
  rintro D σ H ⟨Δ, st, I, N, wd, sl, h, e⟩
  refine low_go wd sl h (fun v st1 vv I1 H1 h1 w1 s1 i1 => ?_) (cx_of sl e)
  refine low_go w1 (sl.mono s1.ii) h1 (fun o st2 ov I2 H2 h2 w2 s2 i2 => ?_) (cx_of (sl.mono s1.ii) (e.go s1))
  have s12 := s1.trans s2
  refine low_go w2 (sl.mono s12.ii) h2 (fun y st3 yv I3 H3 h3 w3 s3 i3 => ?_) (cx_of (sl.mono s12.ii) (e.go s12))
  have s13 := s12.trans s3
  cases i2 with
  | dat hd => exact (h3 : False).elim
  | own p =>
    cases i3 with
    | own q => exact (h3 : False).elim
    | dat hy =>
      obtain ⟨j, xs, k, hj, hk, hl, hn⟩ := h3
      obtain ⟨u, hu, io⟩ := own_at w3 hj
      cases io with
      | @dtt _ us hs =>
        obtain ⟨b, rfl, _, hb⟩ := keyT_is w3 hy hk
        obtain ⟨w4, s4⟩ := set_own (o' := .dT (putK us k vv)) w3 hj (.dtt (rk_putD (i1.mono (s2.ii.trans s3.ii)) hs))
        exact ⟨p, _, rfl, .inr ⟨us, k, b, hu, rfl, hb, by rw [← paired_len hs]; exact hl, rfl⟩, e.nx _ _ _ _ _ hn w4 (s13.trans s4) (sl.mono s13.ii)⟩
theorem low_tnew : ∀ σ H Q, low K dTNew W σ H Q → tDNewT σ H Q := by
  rintro σ H Q ⟨Δ, st, I, ok, ex, wd, sl, h, c, cx⟩
  intro p hp
  obtain ⟨np, w2, s2⟩ := new_own (o := .dT []) (ob := .dtt []) wd hp (.dtt .nil)
  exact c _ _ _ _ _ (h p np) w2 s2 (.own p)
theorem getD_iss {κ : Type} [DecidableEq κ] {xs : List (κ × Sv)} {vs : List (κ × V)} (hp : Paired (RK K I) xs vs) (k : κ) {z : Sv} {zv : V} (iz : IsS K I z zv) : IsS K I ((getD xs k).getD z) ((getD vs k).getD zv) := by
  cases q : getD xs k with
  | none => rw [(rk_get hp).2 q]; exact iz
  | some s =>
    obtain ⟨v', hv, iv⟩ := (rk_get hp).1 s q
    rw [hv]
    exact iv
theorem low_tget2 {td ty tx : DE} : ∀ σ H Q, low K (dTGet2 td ty tx) W σ H Q → tDGet2 (low K td W) (low K ty W) (low K tx W) σ H Q := by
  rintro σ H Q ⟨Δ, st, I, ok, ex, wd, sl, h, c, cx⟩
  refine low_go wd sl h (fun x st1 v I1 H1 h1 w1 s1 i1 => ?_) cx
  obtain ⟨a, vs, xs, rfl, hd, _⟩ := withKT_rd w1 i1 h1.1
  refine ⟨a, rfl, .inr ⟨vs, hd⟩, ?_⟩
  refine low_go w1 (sl.mono s1.ii) h1.2 (fun y st2 u I2 H2 h2 w2 s2 i2 => ?_) (cx.go s1)
  refine low_go w2 ((sl.mono s1.ii).mono s2.ii) h2 (fun z st3 zv I3 H3 h3 w3 s3 i3 => ?_) ((cx.go s1).go s2)
  cases i2 with
  | own p => exact h3.elim
  | dat hy =>
    obtain ⟨a', vs, xs, e, hd, hp, k, hk, h3⟩ := withKT_rd w3 ((i1.mono s2.ii).mono s3.ii) h3
    cases e
    obtain ⟨b, rfl, _, hb⟩ := keyT_is w3 (hy.mono s3.ii) hk
    exact ⟨_, .inr ⟨vs, k, b, hd, rfl, hb, rfl⟩, by rw [getD_V]; exact (c.go ((s1.trans s2).trans s3)).now w3 h3 (getD_iss hp k i3)⟩
/-- dict(pairs), the keys tuples | texts, numbers -/
def pairsT : List Dt → Option (List (List Key × Dt))
  | [] => some []
  | .tup [a, v] :: ds => match keyT a, pairsT ds with
    | some k, some r => some ((k, v) :: r)
    | _, _ => none
  | _ => none
def pairsK : List Dt → Option (List (Key × Dt))
  | [] => some []
  | .tup [a, v] :: ds => match keyD a, pairsK ds with
    | some k, some r => some ((k, v) :: r)
    | _, _ => none
  | _ => none
def putG {κ β : Type} [DecidableEq κ] (xs : List (κ × β)) (k : κ) (v : β) : List (κ × β) := if (xs.any fun kv => decide (kv.1 = k)) = true then xs.map (fun kv => if kv.1 = k then (kv.1, v) else kv) else xs ++ [(k, v)]
def putDs {κ β : Type} [DecidableEq κ] (kvs : List (κ × β)) : List (κ × β) := kvs.foldl (fun acc kv => putG acc kv.1 kv.2) []
def RD (K : PySem.W.Frag) (I : Hp) {κ : Type} (a : κ × Dt) (b : κ × V) : Prop := a.1 = b.1 ∧ IsD K I a.2 b.2
theorem rd_any {κ : Type} [DecidableEq κ] {k : κ} : ∀ {xs : List (κ × Dt)} {vs : List (κ × V)}, Paired (RD K I) xs vs → (xs.any fun kv => decide (kv.1 = k)) = vs.any fun kv => decide (kv.1 = k)
  | _, _, .nil => rfl
  | _, _, .cons (a := (j, s)) (b := (j', v)) r t => by
    obtain ⟨e1, e2⟩ := r
    have e1 : j = j' := e1
    subst e1
    rw [List.any_cons, List.any_cons, rd_any t]
theorem rd_map {κ : Type} [DecidableEq κ] {k : κ} {s : Dt} {v : V} (h : IsD K I s v) : ∀ {xs : List (κ × Dt)} {vs : List (κ × V)}, Paired (RD K I) xs vs → Paired (RD K I) (xs.map fun kv => if kv.1 = k then (kv.1, s) else kv) (vs.map fun kv => if kv.1 = k then (kv.1, v) else kv)
  | _, _, .nil => .nil
  | _, _, .cons (a := (j, s')) (b := (j', v')) r t => by
    obtain ⟨e1, e2⟩ := r
    have e1 : j = j' := e1
    subst e1
    rw [List.map_cons, List.map_cons]
    refine .cons ?_ (rd_map h t)
    by_cases e : j = k
    · rw [if_pos e, if_pos e]
      exact ⟨rfl, h⟩
    · rw [if_neg e, if_neg e]
      exact ⟨rfl, e2⟩
theorem rd_put {κ : Type} [DecidableEq κ] {k : κ} {s : Dt} {v : V} (h : IsD K I s v) {xs : List (κ × Dt)} {vs : List (κ × V)} (r : Paired (RD K I) xs vs) : Paired (RD K I) (putG xs k s) (putK vs k v) := by
  unfold putG putK
  rw [rd_any r]
  split
  · exact rd_map h r
  · exact paired_app r (.cons ⟨rfl, h⟩ .nil)
theorem rd_fold {κ : Type} [DecidableEq κ] : ∀ {xs acc : List (κ × Dt)} {vs av : List (κ × V)}, Paired (RD K I) xs vs → Paired (RD K I) acc av → Paired (RD K I) (xs.foldl (fun acc kv => putG acc kv.1 kv.2) acc) (vs.foldl (fun acc kv => putK acc kv.1 kv.2) av)
  | _, _, _, _, .nil, h => h
  | _, _, _, _, .cons (a := (j, s)) (b := (j', v)) r t, h => by
    obtain ⟨e1, e2⟩ := r
    have e1 : j = j' := e1
    subst e1
    have z := rd_fold t (rd_put (k := j) e2 h)
    exact z
theorem isDt_ofP : ∀ {xs : List (List Key × Dt)} {vs : List (List Key × V)}, Paired (RD K I) xs vs → IsDt K I xs vs
  | _, _, .nil => .nil
  | (j, s) :: _, (j', v) :: _, .cons r t => by
    obtain ⟨e1, e2⟩ := r
    have e1 : j = j' := e1
    subst e1
    exact .cons e2 (isDt_ofP t)
theorem isDk_ofP : ∀ {xs : List (Key × Dt)} {vs : List (Key × V)}, Paired (RD K I) xs vs → IsDk K I xs vs
  | _, _, .nil => .nil
  | (j, s) :: _, (j', v) :: _, .cons r t => by
    obtain ⟨e1, e2⟩ := r
    have e1 : j = j' := e1
    subst e1
    exact .cons e2 (isDk_ofP t)
theorem two_of {a b : Dt} {vs : List V} (h : IsDs K I [a, b] vs) : ∃ v w, vs = [v, w] ∧ IsD K I a v ∧ IsD K I b w := by
  cases h with
  | cons h1 t =>
    cases t with
    | cons h2 t2 => cases t2; exact ⟨_, _, rfl, h1, h2⟩
theorem pairsT_are (w : Wd K st I H) : ∀ {ds : List Dt} {us : List V} {kvs : List (List Key × Dt)}, IsDs K I ds us → pairsT ds = some kvs → ∃ (ps : List Addr) (vs : List (List Key × V)), us = ps.map V.ref ∧ Paired (fun p kv => ∃ b, SqT K H p [.ref b, kv.2] ∧ H b = some (.tup (kv.1.map kV))) ps vs ∧ Paired (RD K I) kvs vs
  | [], _, _, .nil, e => by
    cases e
    exact ⟨[], [], rfl, .nil, .nil⟩
  | d :: ds, _, kvs, .cons h t, e => by
    unfold pairsT at e
    split at e
    · rename_i q; cases q
    · rename_i a v r eq
      cases eq
      cases e1 : keyT a with
      | none => rw [e1] at e; cases e
      | some k =>
        cases e2 : pairsT ds with
        | none => rw [e1, e2] at e; cases e
        | some r =>
          rw [e1, e2] at e
          cases e
          obtain ⟨ps, vs, rfl, hp, hr⟩ := pairsT_are w t e2
          cases h with
          | tup g1 g2 =>
            obtain ⟨u1, u2, rfl, i1, i2⟩ := two_of g2
            obtain ⟨b, rfl, _, hb⟩ := keyT_is w i1 e1
            exact ⟨_ :: ps, (k, u2) :: vs, rfl, .cons ⟨b, w.sub.st g1.st, hb⟩ hp, .cons ⟨rfl, i2⟩ hr⟩
    · cases e
theorem pairsK_are (w : Wd K st I H) : ∀ {ds : List Dt} {us : List V} {kvs : List (Key × Dt)}, IsDs K I ds us → pairsK ds = some kvs → ∃ (ps : List Addr) (vs : List (Key × V)), us = ps.map V.ref ∧ Paired (fun p kv => SqT K H p [kV kv.1, kv.2]) ps vs ∧ Paired (RD K I) kvs vs
  | [], _, _, .nil, e => by
    cases e
    exact ⟨[], [], rfl, .nil, .nil⟩
  | d :: ds, _, kvs, .cons h t, e => by
    unfold pairsK at e
    split at e
    · rename_i q; cases q
    · rename_i a v r eq
      cases eq
      cases e1 : keyD a with
      | none => rw [e1] at e; cases e
      | some k =>
        cases e2 : pairsK ds with
        | none => rw [e1, e2] at e; cases e
        | some r =>
          rw [e1, e2] at e
          cases e
          obtain ⟨ps, vs, rfl, hp, hr⟩ := pairsK_are w t e2
          cases h with
          | tup g1 g2 =>
            obtain ⟨u1, u2, rfl, i1, i2⟩ := two_of g2
            have eq := key_is i1 e1
            subst eq
            exact ⟨_ :: ps, (k, u2) :: vs, rfl, .cons (w.sub.st g1.st) hp, .cons ⟨rfl, i2⟩ hr⟩
    · cases e
def gDictT : GC := fun xs st ok => match xs with
  | [x] => withL x st fun ys => ∃ ds kvs, AllD ys ds ∧ pairsT ds = some kvs ∧ ok (.dat (.dtt (putDs kvs))) st
  | _ => False
def gDictP : GC := fun xs st ok => match xs with
  | [x] => withL x st fun ys => ∃ ds kvs, AllD ys ds ∧ pairsK ds = some kvs ∧ ok (.dat (.dic (putDs kvs))) st
  | _ => False
theorem lc_dictT : LRC (K := K) (fun xs H Q => ∃ (a : Addr) (ps : List Addr) (kvs : List (List Key × V)), xs = [.ref a] ∧ SqL K H a (ps.map V.ref) ∧ Paired (fun p kv => ∃ b, SqT K H p [.ref b, kv.2] ∧ H b = some (.tup (kv.1.map kV))) ps kvs ∧ ∀ p, H p = none → Q (.ref p) (upd H p (.dT (putAll kvs)))) gDictT := by
  intro xs st I H ok Q vs wd ix h c
  unfold gDictT at h
  split at h
  · obtain ⟨v, rfl, i⟩ := one_arg ix
    obtain ⟨a, us, ys, rfl, hs, hp, ds, kvs, ha, hk, h⟩ := withL_rd wd i h
    obtain ⟨ps, vs, rfl, hpp, hr⟩ := pairsT_are wd (isDs_of ha hp) hk
    refine ⟨a, ps, vs, rfl, hs, hpp, fun p hn => ?_⟩
    obtain ⟨w2, s2⟩ := new_known (o := .dT (putAll vs)) wd hn
    exact c _ _ _ _ _ h w2 s2 (.dat (.dtt (.inl upd_same) ((isDt_ofP (rd_fold hr .nil)).mono (Ex.new (wd.sub.none hn)))))
  · exact h.elim
theorem lc_dictP : LRC (K := K) (fun xs H Q => ∃ (a : Addr) (ps : List Addr) (kvs : List (Key × V)), xs = [.ref a] ∧ SqL K H a (ps.map V.ref) ∧ Paired (fun p kv => SqT K H p [kV kv.1, kv.2]) ps kvs ∧ ∀ p, H p = none → Q (.ref p) (upd H p (.dK (mergeK [] kvs)))) gDictP := by
  intro xs st I H ok Q vs wd ix h c
  unfold gDictP at h
  split at h
  · obtain ⟨v, rfl, i⟩ := one_arg ix
    obtain ⟨a, us, ys, rfl, hs, hp, ds, kvs, ha, hk, h⟩ := withL_rd wd i h
    obtain ⟨ps, vs, rfl, hpp, hr⟩ := pairsK_are wd (isDs_of ha hp) hk
    refine ⟨a, ps, vs, rfl, hs, hpp, fun p hn => ?_⟩
    obtain ⟨w2, s2⟩ := new_known (o := .dK (mergeK [] vs)) wd hn
    exact c _ _ _ _ _ h w2 s2 (.dat (.dic (.inl upd_same) ((isDk_ofP (rd_fold hr .nil)).mono (Ex.new (wd.sub.none hn)))))
  · exact h.elim
end
section
variable {X : Cx} {W : WX} {a b o e : Expr} {to te ta tb : DE} {pos p : Pos}
theorem dtget (hu : X.A.units + 1 < cLine) (ho : PEd X W o to) (hi : PEd X W e te) (hs : NoSl e := by exact fun _ _ => rfl) : PEd X W (.Subscript o e pos) (dTGet to te) := PE.imp (pe_dget hu ho hi hs) low_tget
theorem stput {p' : Pos} {tv : DE} (hu : X.A.units + 1 < cLine) (hv : PEd X W a tv) (ho : PEd X W o to) (hi : PEd X W e te) (hs : swapsWith a (some (.Subscript o e p')) pos.line X.env = pure false := by rfl) : PSd X W (.Assign [.Subscript o e p'] a pos) (dTPut to te tv) := PS.imp (ps_dput hu ho hi hv hs) lowS_tput
theorem dtnew : PEd X W (.Dict [] [] pos) dTNew := PE.imp pe_dnewT low_tnew
theorem dtget2 {f : Expr} {apos cpos : Pos} {tx : DE} (hu : X.A.units + 1 < cLine) (ho : PEd X W o to) (he : PEd X W e te) (hf : PEd X W f tx) (m : M2 X o "get" apos e f cpos := by exact ⟨rfl, rfl, rfl, rfl⟩) : PEd X W (.Call (.Attribute o "get" apos) [e, f] [] cpos) (dTGet2 to te tx) := PE.imp (pe_dget2 hu ho he hf m) low_tget2
end
end DD
namespace DD
open PySem PySem.Spec PyProof.Rows L2
theorem ktu_sq {K : PySem.W.Frag} {I : Hp} {a : Addr} (h : ∃ (o : Obj) (n : Nat), K.lookup a = some o ∧ o.cls = .type "tuple" ∧ o.data = .seq #[] n) : SqT K I a [] := by
  obtain ⟨o, n, h1, h2, h3⟩ := h
  exact .inr ⟨o, #[], n, h1, h2, h3, Nat.zero_le _, .nil⟩
section
variable {K : PySem.W.Frag} {W : WX} {st : Store} {I H : Hp}
theorem isDs_app : ∀ {xs ys : List Dt} {vs us : List V}, IsDs K I xs vs → IsDs K I ys us → IsDs K I (xs ++ ys) (vs ++ us)
  | _, _, _, _, .nil, h => h
  | _, _, _, _, .cons a t, h => .cons a (isDs_app t h)
theorem isDs_rep {xs : List Dt} {vs : List V} (h : IsDs K I xs vs) : ∀ n, IsDs K I (List.replicate n xs).flatten (List.replicate n vs).flatten
  | 0 => .nil
  | n + 1 => by
    rw [List.replicate_succ, List.replicate_succ, List.flatten_cons, List.flatten_cons]
    exact isDs_app h (isDs_rep h n)
theorem isDs_len : ∀ {xs : List Dt} {vs : List V}, IsDs K I xs vs → xs.length = vs.length
  | _, _, .nil => rfl
  | _, _, .cons _ t => congrArg Nat.succ (isDs_len t)
end
@[irreducible] def whileD (c : DT) (body : DS) (Δ : List Sv) (st : Store) (N : DN) : Prop := ∃ J : Nat → List Sv → Store → Prop, (∃ m, J m Δ st) ∧
  ∀ m Δ' st', J m Δ' st' → c Δ' st' (fun b st1 => (b = true → body Δ' st1 { N with nx := fun Δ2 st2 => ∃ m', m' < m ∧ J m' Δ2 st2, ct := fun Δ2 st2 => ∃ m', m' < m ∧ J m' Δ2 st2, bk := N.nx }) ∧ (b = false → N.nx Δ' st1)) (exAt N Δ')
theorem whileD_eq (c : DT) (body : DS) (Δ : List Sv) (st : Store) (N : DN) : whileD c body Δ st N = (∃ J : Nat → List Sv → Store → Prop, (∃ m, J m Δ st) ∧
  ∀ m Δ' st', J m Δ' st' → c Δ' st' (fun b st1 => (b = true → body Δ' st1 { N with nx := fun Δ2 st2 => ∃ m', m' < m ∧ J m' Δ2 st2, ct := fun Δ2 st2 => ∃ m', m' < m ∧ J m' Δ2 st2, bk := N.nx }) ∧ (b = false → N.nx Δ' st1)) (exAt N Δ')) := by
  unfold whileD
  rfl
def dWhile (c : DT) (body : DS) : DS := fun Δ st N => whileD c body Δ st N
theorem lowS_while {K : PySem.W.Frag} {W : WX} {c : DT} {body : DS} : ∀ D σ H, lowS K (dWhile c body) W D σ H → tWhile (lowT K c W) (lowS K body W) D σ H := by
  rintro D σ H ⟨Δ, st, I, N, wd, sl, h, e⟩
  unfold dWhile at h
  rw [whileD_eq] at h
  obtain ⟨J, ⟨m0, j0⟩, jt⟩ := h
  refine ⟨fun m σ' H' => ∃ Δ' st' I', J m Δ' st' ∧ Wd K st' I' H' ∧ Sl K Δ' I' σ' ∧ Stp st I H st' I' H', ⟨m0, Δ, st, I, j0, wd, sl, Stp.refl _ _ _⟩, ?_⟩
  rintro m σ' H' ⟨Δ', st', I', hj, w', l', s'⟩
  have e' := e.go s'
  refine lowT_go w' l' (jt m Δ' st' hj) (fun b st1 I1 H1 h1 w1 s1 => ?_) (cx_of l' e')
  cases b with
  | true =>
    refine iteT ⟨fun σ2 H2 => ∃ m', m' < m ∧ ∃ Δ2 st2 I2, J m' Δ2 st2 ∧ Wd K st2 I2 H2 ∧ Sl K Δ2 I2 σ2 ∧ Stp st I H st2 I2 H2, fun σ2 H2 z => z, ?_⟩
    have e1 := e'.go s1
    exact lowS_go w1 (l'.mono s1.ii) (h1.1 rfl) ⟨fun Δ2 st2 σ2 I2 H2 ⟨m', hm, hj2⟩ w2 s2 l2 => ⟨m', hm, Δ2, st2, I2, hj2, w2, l2, (s'.trans s1).trans s2⟩, e1.rt, e1.nx, fun Δ2 st2 σ2 I2 H2 ⟨m', hm, hj2⟩ w2 s2 l2 => ⟨m', hm, Δ2, st2, I2, hj2, w2, l2, (s'.trans s1).trans s2⟩, e1.ex⟩
  | false => exact iteF (e'.nx _ _ _ _ _ (h1.2 rfl) w1 s1 (l'.mono s1.ii))
theorem swhile {X : Cx} {W : WX} {c : Expr} {ss : List Stmt} {pos : Pos} {tc : DT} {t : DS} (hp : PassesOwn (model X.prog X.w) X.A X.env X.xe) (hc : PTd X W c tc) (hb : PBd X W ss t) (hcalm : X.calm = true := by rfl) : PSd X W (.While c ss [] pos) (dWhile tc t) := PS.imp (ps_while hp hc hb) lowS_while
end DD
namespace DD
open PySem PySem.Spec PyProof.Rows L2
theorem ssetLc {X : Cx} {W : WX} {y : Str} {py : Pos} {elt tg iter : Expr} {ifs : List Expr} {scope : Scope} {pos spos : Pos} {it : DI} {g : DG} {tt : DT} {te : DE} (i : Nat) (own : List (Str × Nat)) (hN : X.N.Nodup) (hi : PId X W tg iter it) (ok : BlkOk X.N X.env.scope scope own)
    (hg : ∀ (s : Shared) (H : Hp) (C : Addr) (cl : List (Str × Addr)) (fp : List Addr), PGw (X.blk s H scope (compEnvC scope cl C X.env) fp) (own.map (·.2)) tg g) (ht : ∀ (s : Shared) (H : Hp) (C : Addr) (cl : List (Str × Addr)) (fp : List Addr), PTsd (X.blk s H scope (compEnvC scope cl C X.env) fp) ifs tt)
    (he : ∀ (s : Shared) (H : Hp) (C : Addr) (cl : List (Str × Addr)) (fp : List Addr), PEd (X.blk s H scope (compEnvC scope cl C X.env) fp) W0 elt te) (hc : X.calm = true := by rfl) (hy : X.N[i]? = some y := by rfl) (hyl : X.env.scope.names.lookup y = some .local := by rfl)
    (hsw : swapsWith (.ListComp elt [⟨tg, iter, ifs, 0⟩] scope pos) (some (.Name y py)) spos.line X.env = pure true := by rfl) (hs : ∀ x, foldedSetIterable iter X.env x = pure x := by intro _; rfl) :
    PSd X W (.Assign [.Name y py] (.ListComp elt [⟨tg, iter, ifs, 0⟩] scope pos) spos) (dAsg i (dLc it g tt te (own.map (·.2)))) :=
  PS.imp (ps_setLc hc hN hy hyl hsw hi ok hg ht he hs) fun D σ H h => low_lc _ _ _ (lowS_asg D σ H h)
/-- a, b = e, f where a or b is a cell: a tuple is made and taken apart -/
theorem lowS_parC {K : PySem.W.Frag} {W : WX} {i j : Nat} {t : DA} : ∀ D σ H, lowS K (dPar i j t) W D σ H → tAsg (tTup (lowA K t W)) (gTup K 2 (gCons (gName i) (gCons (gName j) gNil))) D σ H := by
  rintro D σ H ⟨Δ, st, I, N, wd, sl, h, e⟩
  refine lowA_go wd sl h (fun xs st1 vs I1 H1 h1 w1 s1 i1 => ?_) (cx_of sl e)
  split at h1
  · cases i1 with
    | cons a i1 =>
      cases i1 with
      | cons b i1 =>
        cases i1
        refine ⟨by rw [sizeLine_eq]; simp only [List.length_cons, List.length_nil]; decide, fun p hp => ?_⟩
        obtain ⟨w2, s2⟩ := new_known (o := .tup _) w1 hp
        have e2 : Ex I1 _ := s2.ii
        exact ⟨p, _, rfl, .inl (.inl upd_same), rfl, _, _, rfl, _, _, rfl, rfl, e.nx _ _ _ _ _ h1 w2 (s1.trans s2) ((((sl.mono s1.ii).mono s2.ii).set (a.mono s2.ii)).set (b.mono s2.ii))⟩
  · exact h1.elim
theorem sparC {X : Cx} {W : WX} {x y : Str} {a b : Expr} {t : DA} {px py pt pos pt2 : Pos} {kt k2 : Nat} (i j : Nat) (hN : X.N.Nodup) (ha : PAd X W [a, b] t) (hc : X.calm = true := by rfl) (hi : X.N[i]? = some x := by rfl) (hj : X.N[j]? = some y := by rfl)
    (hx : Loc X.env.scope x := by first | exact Or.inl rfl | exact Or.inr rfl) (hy : Loc X.env.scope y := by first | exact Or.inl rfl | exact Or.inr rfl)
    (hfx : X.fn x = true ∨ X.env.scope.names.lookup x = some .local := by first | exact .inl rfl | exact .inr rfl | assumption) (hfy : X.fn y = true ∨ X.env.scope.names.lookup y = some .local := by first | exact .inl rfl | exact .inr rfl | assumption)
    (hw : swappedStores [.Tuple [.Name x px, .Name y py] kt pt] (.Tuple [a, b] k2 pt2) X.env = pure none := by rfl)
    (hs : swapsWithSole [.Tuple [.Name x px, .Name y py] kt pt] (.Tuple [a, b] k2 pt2) pos.line X.env = pure false := by rfl) : PSd X W (.Assign [.Tuple [.Name x px, .Name y py] kt pt] (.Tuple [a, b] k2 pt2) pos) (dPar i j t) :=
  PS.imp (ps_asg (pe_tup ha) (pg_tup hc (pgs_cons (pg_name hN hi hx hfx) (pgs_cons (pg_name hN hj hy hfy) pgs_nil))) hs hw) lowS_parC
end DD
namespace DD
open PySem PySem.Spec PyProof.Rows L2
end DD
namespace SP
open PySem PySem.Spec PyProof.Rows L2 DD
abbrev Ep := Str × Int
def epD (e : Ep) : Dt := .tup [.str e.1, .int e.2]
def epP (e : Ep) : PyData := .tuple [.str e.1, .int e.2]
theorem word_ok {z : Str} (h : isWord z = true) : PyData.strOk z = true := by
  unfold isWord at h
  rw [Bool.and_eq_true] at h
  have h2 := List.all_eq_true.mp h.2
  unfold PyData.strOk
  rw [← Array.all_toList, List.all_eq_true]
  intro c hc
  have := h2 c hc
  rw [Bool.and_eq_true, decide_eq_true_iff, decide_eq_true_iff] at this
  exact decide_eq_true (by omega)
theorem word_len {z : Str} (h : isWord z = true) : z.length ≤ sizeLine := by
  unfold isWord at h
  rw [Bool.and_eq_true, Bool.and_eq_true] at h
  have := of_decide_eq_true h.1.2
  rw [sizeLine_eq]
  omega
theorem ep_of (e : Ep) : PyOf (epD e) (epP e) := .tup (.cons (.str _) (.cons (.int _) .nil))
theorem eps_of : ∀ es : List Ep, PyOfs (es.map epD) (es.map epP)
  | [] => .nil
  | e :: es => .cons (ep_of e) (eps_of es)
theorem ep_shaped (e : Ep) (h : isWord e.1 = true) : SeqAt.shaped (epP e) = true := by
  have hs : PyData.strOk e.1 = true := word_ok h
  have hc : (epP e).canLay0 = true := by simp [epP, PyData.canLay0, PyData.canLayAll0, hs]
  have hd : (epP e).depth ≤ 64 := by simp [epP, PyData.depth, PyData.depthAll]
  unfold SeqAt.shaped
  rw [hc, decide_eq_true hd]
  rfl
theorem eps_lay (es : List Ep) (h : ∀ e ∈ es, isWord e.1 = true) : PyData.canLayAll0 (es.map epP) = true := by
  induction es with
  | nil => rfl
  | cons e es ih =>
    rw [List.map_cons]
    unfold PyData.canLayAll0
    rw [ih fun e h' => h e (List.mem_cons_of_mem _ h')]
    have hs : PyData.strOk e.1 = true := word_ok (h e List.mem_cons_self)
    simp [epP, PyData.canLay0, PyData.canLayAll0, hs]
theorem ep_eqv (a b : Ep) : PyData.eqv (epP a) (epP b) = decide (a = b) := by
  obtain ⟨a1, a2⟩ := a
  obtain ⟨b1, b2⟩ := b
  unfold epP
  simp only [PyData.eqv, PyData.eqvAll, Bool.and_true]
  by_cases h1 : a1 = b1 <;> by_cases h2 : a2 = b2 <;> simp [h1, h2]
theorem ep_any (es : List Ep) (e : Ep) : ((es.map epP).any fun z => PyData.eqv z (epP e)) = decide (e ∈ es) := by
  induction es with
  | nil => rfl
  | cons a es ih =>
    rw [List.map_cons, List.any_cons, ih, ep_eqv]
    by_cases h : a = e
    · subst h; simp
    · have h' : ¬ e = a := fun z => h z.symm
      simp [h, h']
structure Bk where
  rules : List Rul
  seen : List Ep
abbrev Lst := List (Str × Snd)
structure Cl where
  B : Addr
  R : Addr
  L : Addr
  D : Addr
def dicD {α : Type} (f : α → Dt) (l : List (Str × α)) : Dt := .dic (l.map fun x => (.inr x.1, f x.2))
def Bk.d (c : Cl) (b : Bk) : Dt := .ins c.B [("_rules", .tup (b.rules.map (Rul.d c.R))), ("_seen", .tup (b.seen.map epD))]
def lstD (c : Cl) (l : Lst) : Dt := .ins c.L [("_sendings", dicD (Snd.d c.D) l)]
def look {α : Type} (l : List (Str × α)) (n : Str) : Option α := (l.find? fun x => decide (x.1 = n)).map (·.2)
theorem getD_dic {α : Type} (f : α → Dt) (l : List (Str × α)) (n : Str) : getD ((l.map fun x => ((Sum.inr x.1 : Key), f x.2)).map fun kv => (kv.1, Sv.dat kv.2)) (.inr n) = (look l n).map fun x => Sv.dat (f x) := by
  unfold getD look
  induction l with
  | nil => rfl
  | cons a l ih =>
    rw [List.map_cons, List.map_cons, List.find?_cons, List.find?_cons]
    have e : decide ((Sum.inr a.1 : Key) = Sum.inr n) = decide (a.1 = n) := by simp
    dsimp only
    rw [e]
    cases decide (a.1 = n) with
    | true => rfl
    | false => exact ih
/-- the rule that wishes for an episode -/
def ruleOf (b : Bk) (s : Str) (e : Int) : Option Rul := if (s, e) ∈ b.seen then none else b.rules.find? fun r => decide (r.show_ = s) && (decide (r.first ≤ e) && decide (e ≤ r.last))
def ruleFor (b : Bk) (x : Snd) : Option Rul := ruleOf b x.show_ x.episode
def Snd.ep (x : Snd) : Ep := (x.show_, x.episode)
/-- a sending that is wished, its rule -/
structure Wi where
  n : Str
  s : Snd
  r : Rul
def wished (b : Bk) (l : Lst) : List Wi := l.filterMap fun x => (ruleFor b x.2).map fun r => ⟨x.1, x.2, r⟩
def optR (C : Addr) : Option Rul → Dt
  | some r => r.d C
  | none => .non
structure SOk (x : Snd) : Prop where
  ch : isWord x.channel = true
  sh : isWord x.show_ = true
  e1 : 1 ≤ x.episode
  e2 : x.episode ≤ 999
  b0 : 0 ≤ x.begin_
  b1 : x.begin_ ≤ 1000000
  n0 : x.begin_ < x.end_
  n1 : x.end_ ≤ 1000600
  l0 : 0 ≤ x.late
  l1 : x.late ≤ 60
structure ROk (x : Rul) : Prop where
  sh : isWord x.show_ = true
  f1 : 1 ≤ x.first
  f2 : x.first ≤ x.last
  l2 : x.last ≤ 999
  p1 : 1 ≤ x.priority
  p2 : x.priority ≤ 9
  b0 : 0 ≤ x.before
  b1 : x.before ≤ 60
  a0 : 0 ≤ x.after
  a1 : x.after ≤ 60
structure LOk (l : Lst) : Prop where
  len : l.length ≤ 10
  nd : (l.map (·.1)).Pairwise fun a b => a.cps.toList < b.cps.toList
  ok : ∀ x ∈ l, isWord x.1 = true ∧ SOk x.2
structure BOk (b : Bk) : Prop where
  len : b.rules.length ≤ 6
  ok : ∀ x ∈ b.rules, ROk x
  seen : b.seen.length ≤ 63
  sok : ∀ e ∈ b.seen, isWord e.1 = true
def strLe (a b : Str) : Bool := decide (a.cps.toList ≤ b.cps.toList)
theorem str_ext {x y : Str} (h : x.cps.toList = y.cps.toList) : x = y := PySem.W.str_of_cps h
def sortN (ns : List Str) : List Str := ns.mergeSort strLe
theorem strLe_trans (a b c : Str) (h : strLe a b = true) (k : strLe b c = true) : strLe a c = true := by
  unfold strLe at *
  exact decide_eq_true (List.le_trans (of_decide_eq_true h) (of_decide_eq_true k))
theorem strLe_total (a b : Str) : (strLe a b || strLe b a) = true := by
  unfold strLe
  rw [Bool.or_eq_true, decide_eq_true_iff, decide_eq_true_iff]
  exact List.le_total _ _
theorem sort_unique {α : Type} {le : α → α → Bool} (tr : ∀ a b c, le a b = true → le b c = true → le a c = true) (to : ∀ a b, (le a b || le b a) = true) (an : ∀ a b, le a b = true → le b a = true → a = b) {l l' : List α} (hp : l'.Perm l) (hs : l'.Pairwise fun a b => le a b = true) : l' = l.mergeSort le := by
  have h1 := List.pairwise_mergeSort (le := le) tr to l
  have hp' : l'.Perm (l.mergeSort le) := hp.trans (List.mergeSort_perm l le).symm
  exact List.Perm.eq_of_pairwise (fun a b _ _ => an a b) hs h1 hp'
theorem strLe_anti (a b : Str) (h : strLe a b = true) (k : strLe b a = true) : a = b := by
  unfold strLe at *
  exact str_ext (List.le_antisymm (of_decide_eq_true h) (of_decide_eq_true k))
theorem rising_pw : ∀ (l : List Str) (p : Str), risingS p l = true → (p :: l).Pairwise fun a b => strLe a b = true
  | [], p, _ => by simp
  | x :: l, p, h => by
    unfold risingS at h
    rw [Bool.and_eq_true] at h
    have ih := rising_pw l x h.2
    have hx : strLe p x = true := by
      have h1 : ltCps x.cps.toList p.cps.toList = false := by simpa using h.1
      have e : ltCps x.cps.toList p.cps.toList = decide (x.cps.toList < p.cps.toList) := by first | rfl | exact ltCps_eq _ _
      rw [e] at h1
      unfold strLe
      exact decide_eq_true (List.not_lt.mp (of_decide_eq_false h1))
    refine List.pairwise_cons.mpr ⟨fun y hy => ?_, ih⟩
    rcases List.mem_cons.mp hy with rfl | hy
    · exact hx
    · exact strLe_trans _ _ _ hx ((List.pairwise_cons.mp ih).1 y hy)
theorem sorted_is {ys ks : List Str} (hp : ys.Perm ks) (hs : sortedS ys = true) : ys = sortN ks := by
  refine sort_unique strLe_trans strLe_total strLe_anti hp ?_
  cases ys with
  | nil => simp
  | cons y ys => exact rising_pw ys y hs
theorem data_tot {α : Type} (k : α → PyData) : PySem.W.TotalLe (PySem.W.dataLe false k) := PySem.W.sortLe_total (PyProof.Rows.listOrd PyProof.Rows.itemOrd) false fun b => PySem.W.keyToks (k b)
theorem data_total {α : Type} (k : α → PyData) (a b : α) : (PySem.W.dataLe false k a b || PySem.W.dataLe false k b a) = true := by
  rw [Bool.or_eq_true]
  exact (data_tot k).total a b
theorem data_trans {α : Type} (k : α → PyData) : ∀ a b c, PySem.W.dataLe false k a b = true → PySem.W.dataLe false k b c = true → PySem.W.dataLe false k a c = true := (data_tot k).trans
theorem data_anti {α : Type} (k : α → PyData) (inj : ∀ a b, PySem.W.keyToks (k a) = PySem.W.keyToks (k b) → a = b) (a b : α) (h : PySem.W.dataLe false k a b = true) (h2 : PySem.W.dataLe false k b a = true) : a = b := by
  rw [PySem.W.dataLe_eq] at h h2
  dsimp only [cond] at h h2
  have h1 : PySem.W.dataLt (k b) (k a) = false := by simpa using h
  have h3 : PySem.W.dataLt (k a) (k b) = false := by simpa using h2
  exact inj a b (PyProof.Rows.lex_total (O := PyProof.Rows.itemOrd) _ _ h3 h1)
end SP
namespace SP
open PySem PySem.Spec PyProof.Rows L2 DD
theorem look_mem {α : Type} {l : List (Str × α)} (nd : (l.map (·.1)).Nodup) {x : Str × α} (h : x ∈ l) : look l x.1 = some x.2 := by
  unfold look
  induction l with
  | nil => cases h
  | cons a l ih =>
    rw [List.map_cons, List.nodup_cons] at nd
    rw [List.find?_cons]
    rcases List.mem_cons.mp h with e | h
    · subst e; simp
    · have : a.1 ≠ x.1 := fun e => nd.1 (e ▸ List.mem_map.mpr ⟨x, h, rfl⟩)
      rw [decide_eq_false this]
      exact ih nd.2 h
theorem look_some {α : Type} {l : List (Str × α)} {n : Str} {a : α} (h : look l n = some a) : (n, a) ∈ l := by
  unfold look at h
  cases e : l.find? (fun x => decide (x.1 = n)) with
  | none => rw [e] at h; cases h
  | some x =>
    rw [e] at h
    cases h
    have h1 := List.mem_of_find?_eq_some e
    have h2 := List.find?_some e
    have h3 : x.1 = n := of_decide_eq_true h2
    subst h3
    exact h1
theorem LOk.nodup {l : Lst} (h : LOk l) : (l.map (·.1)).Nodup := h.nd.imp fun {a b} k e => by subst e; exact absurd k (List.lt_irrefl _)
theorem LOk.get {l : Lst} (h : LOk l) {x : Str × Snd} (hx : x ∈ l) : look l x.1 = some x.2 := look_mem h.nodup hx
abbrev bl (c : Cl) (b : Bk) (l : Lst) : List Sv := [.dat (b.d c), .dat (lstD c l)]
def namesD (ns : List Str) : Dt := .lst (ns.map .str)
@[irreducible] def ctRuleOf (c : Cl) : Ct := fun ss st ok _ => ∃ b s e, ss = [.dat (b.d c), .dat (.str s), dI e] ∧ BOk b ∧ isWord s = true ∧ ok (.dat (optR c.R (ruleOf b s e))) st
theorem ctRuleOf_eq (c : Cl) {ss : List Sv} {st : Store} {ok : OK} {ex : EK} : ctRuleOf c ss st ok ex = ∃ b s e, ss = [.dat (b.d c), .dat (.str s), dI e] ∧ BOk b ∧ isWord s = true ∧ ok (.dat (optR c.R (ruleOf b s e))) st := by unfold ctRuleOf; rfl
def ctEp (c : Cl) : Ct := fun ss st ok _ => ∃ x : Snd, ss = [.dat (x.d c.D)] ∧ ok (.dat (epD x.ep)) st
@[irreducible] def ctRuleFor (c : Cl) : Ct := fun ss st ok _ => ∃ b x, ss = [.dat (b.d c), .dat (x.d c.D)] ∧ BOk b ∧ SOk x ∧ ok (.dat (optR c.R (ruleFor b x))) st
theorem ctRuleFor_eq (c : Cl) {ss : List Sv} {st : Store} {ok : OK} {ex : EK} : ctRuleFor c ss st ok ex = ∃ b x, ss = [.dat (b.d c), .dat (x.d c.D)] ∧ BOk b ∧ SOk x ∧ ok (.dat (optR c.R (ruleFor b x))) st := by unfold ctRuleFor; rfl
@[irreducible] def ctItem (c : Cl) : Ct := fun ss st ok _ => ∃ l n x, ss = [.dat (lstD c l), .dat (.str n)] ∧ look l n = some x ∧ ok (.dat (x.d c.D)) st
theorem ctItem_eq (c : Cl) {ss : List Sv} {st : Store} {ok : OK} {ex : EK} : ctItem c ss st ok ex = ∃ l n x, ss = [.dat (lstD c l), .dat (.str n)] ∧ look l n = some x ∧ ok (.dat (x.d c.D)) st := by unfold ctItem; rfl
@[irreducible] def ctNames (c : Cl) : Ct := fun ss st ok _ => ∃ l : Lst, ss = [.dat (lstD c l)] ∧ ok (.dat (.tup (l.map fun x => .str x.1))) st
theorem ctNames_eq (c : Cl) {ss : List Sv} {st : Store} {ok : OK} {ex : EK} : ctNames c ss st ok ex = ∃ l : Lst, ss = [.dat (lstD c l)] ∧ ok (.dat (.tup (l.map fun x => .str x.1))) st := by unfold ctNames; rfl
/-- of a book and a listing, and what else -/
@[irreducible] def ctBL (c : Cl) {α : Type} (e : α → List Sv) (pre : Bk → Lst → α → Prop) (res : Bk → Lst → α → Dt) : Ct := fun ss st ok _ => ∃ b l a, ss = .dat (b.d c) :: .dat (lstD c l) :: e a ∧ BOk b ∧ LOk l ∧ pre b l a ∧ ok (.dat (res b l a)) st
theorem ctBL_eq (c : Cl) {α : Type} (e : α → List Sv) (pre : Bk → Lst → α → Prop) (res : Bk → Lst → α → Dt) {ss : List Sv} {st : Store} {ok : OK} {ex : EK} : ctBL c e pre res ss st ok ex = ∃ b l a, ss = .dat (b.d c) :: .dat (lstD c l) :: e a ∧ BOk b ∧ LOk l ∧ pre b l a ∧ ok (.dat (res b l a)) st := by unfold ctBL; rfl
theorem bl_len {c : Cl} {α : Type} {e : α → List Sv} {pre : Bk → Lst → α → Prop} {res : Bk → Lst → α → Dt} {ss : List Sv} {st : Store} {ok : OK} {ex : EK} {m : Nat} (he : ∀ a, (e a).length = m) (h : ctBL c e pre res ss st ok ex) : ss.length = m + 2 := by
  rw [ctBL_eq] at h
  obtain ⟨b, l, a, rfl, _⟩ := h
  show (e a).length + 1 + 1 = _
  rw [he]
theorem bl_at {c : Cl} {α : Type} {e : α → List Sv} {pre : Bk → Lst → α → Prop} {res : Bk → Lst → α → Dt} {st : Store} {ok : OK} {ex : EK} {b : Bk} {l : Lst} (a : α) {xs : List Sv} (hx : xs = e a) (hb : BOk b) (hl : LOk l) (hp : pre b l a) (k : ok (.dat (res b l a)) st) : ctBL c e pre res (.dat (b.d c) :: .dat (lstD c l) :: xs) st ok ex := by
  rw [ctBL_eq]
  subst hx
  exact ⟨b, l, a, rfl, hb, hl, hp, k⟩
def wNames (b : Bk) (l : Lst) : List Str := (wished b l).map (·.n)
def ctWNames (c : Cl) : Ct := ctBL c (fun _ : Unit => []) (fun _ _ _ => True) fun b l _ => namesD (wNames b l)
abbrev Row := Int × Int × Ep
def rowD (r : Row) : Dt := .tup [.int r.1, .int r.2.1, epD r.2.2]
def rowP (r : Row) : PyData := .tuple [.int r.1, .int r.2.1, epP r.2.2]
def Wi.row (x : Wi) : Row := (-x.r.priority, x.s.begin_, x.s.ep)
def dedup (es : List Ep) : List Ep := es.foldl (fun acc e => if e ∈ acc then acc else acc ++ [e]) []
def sortedRows (b : Bk) (l : Lst) : List Row := ((wished b l).map Wi.row).mergeSort (PySem.W.dataLe false rowP)
def wishes (b : Bk) (l : Lst) : List Ep := dedup ((sortedRows b l).map (·.2.2))
def ctWishes (c : Cl) : Ct := ctBL c (fun _ : Unit => []) (fun _ _ _ => True) fun b l _ => .lst ((wishes b l).map epD)
abbrev Bn := Int × Str
def bnD (r : Bn) : Dt := .tup [.int r.1, .str r.2]
def bnP (r : Bn) : PyData := .tuple [.int r.1, .str r.2]
def Wi.bn (x : Wi) : Bn := (x.s.begin_, x.n)
def bnOf (b : Bk) (l : Lst) (e : Ep) : List Bn := (((wished b l).filter fun x => decide (x.s.ep = e)).map Wi.bn).mergeSort (PySem.W.dataLe false bnP)
def sendsOf (b : Bk) (l : Lst) (e : Ep) : List Str := (bnOf b l e).map (·.2)
def ctSends (c : Cl) : Ct := ctBL c (fun e : Ep => [.dat (epD e)]) (fun b l e => ∃ x ∈ wished b l, x.s.ep = e) fun b l e => namesD (sendsOf b l e)
abbrev Win := Int × Int
def winD (w : Win) : Dt := .tup [.int w.1, .int w.2]
def Wi.win (x : Wi) : Win := (if x.s.begin_ - x.r.before > 0 then x.s.begin_ - x.r.before else 0, x.s.end_ + x.r.after)
def ctWindow (c : Cl) : Ct := ctBL c (fun x : Wi => [.dat (.str x.n)]) (fun b l x => x ∈ wished b l) fun _ _ x => winD x.win
def windows (b : Bk) (l : Lst) : List (Str × Win) := (wished b l).map fun x => (x.n, x.win)
def ctWindows (c : Cl) : Ct := ctBL c (fun _ : Unit => []) (fun _ _ _ => True) fun b l _ => dicD winD (windows b l)
def overlap (a b : Win) : Bool := decide (a.1 < b.2) && decide (b.1 < a.2)
def ctOver : Ct := fun ss st ok _ => ∃ a b : Win, ss = [.dat (winD a), .dat (winD b)] ∧ ok (.dat (.bl (overlap a b))) st
abbrev Plan := List (Str × Int)
structure POk (p : Plan) : Prop where
  nd : (p.map (·.1)).Nodup
  len : p.length ≤ 10
def asc (p : Plan) : Plan := (sortN (p.map (·.1))).map fun n => (n, (look p n).getD 0)
@[irreducible] def ctAsc : Ct := fun ss st ok _ => ∃ p : Plan, ss = [.dat (dicD .int p)] ∧ POk p ∧ ok (.dat (dicD .int (asc p))) st
theorem ctAsc_eq {ss : List Sv} {st : Store} {ok : OK} {ex : EK} : ctAsc ss st ok ex = ∃ p : Plan, ss = [.dat (dicD .int p)] ∧ POk p ∧ ok (.dat (dicD .int (asc p))) st := by unfold ctAsc; rfl
def winOf (ws : List (Str × Win)) (n : Str) : Win := (look ws n).getD (0, 0)
def onRecW (ws : List (Str × Win)) (p : Plan) (r : Int) (w : Win) : List Str := ((sortN (p.map (·.1))).filter fun o => decide (look p o = some r)).filter fun o => overlap (winOf ws o) w
abbrev onRec (ws : List (Str × Win)) (p : Plan) (r : Int) (n : Str) : List Str := onRecW ws p r (winOf ws n)
@[irreducible] def ctOnRec : Ct := fun ss st ok _ => ∃ ws p r w, (∃ dp : Sv, ss = [.dat (dicD winD ws), dp, dI r, .dat (winD w)] ∧ (dp = .dat (dicD .int p) ∨ ∃ (q : Addr) (j : Nat), dp = .own q ∧ st[j]? = some (q, Ob.dic (p.map fun x => ((Sum.inr x.1 : Key), dI x.2))))) ∧ POk p ∧ (∀ x ∈ p, (look ws x.1).isSome) ∧ ok (.dat (namesD (onRecW ws p r w))) st
theorem ctOnRec_eq {ss : List Sv} {st : Store} {ok : OK} {ex : EK} : ctOnRec ss st ok ex = ∃ ws p r w, (∃ dp : Sv, ss = [.dat (dicD winD ws), dp, dI r, .dat (winD w)] ∧ (dp = .dat (dicD .int p) ∨ ∃ (q : Addr) (j : Nat), dp = .own q ∧ st[j]? = some (q, Ob.dic (p.map fun x => ((Sum.inr x.1 : Key), dI x.2))))) ∧ POk p ∧ (∀ x ∈ p, (look ws x.1).isSome) ∧ ok (.dat (namesD (onRecW ws p r w))) st := by unfold ctOnRec; rfl
theorem wished_mem {b : Bk} {l : Lst} {x : Wi} : x ∈ wished b l ↔ (x.n, x.s) ∈ l ∧ ruleFor b x.s = some x.r := by
  unfold wished
  rw [List.mem_filterMap]
  constructor
  · rintro ⟨y, hy, h⟩
    cases e : ruleFor b y.2 with
    | none => rw [e] at h; cases h
    | some r => rw [e] at h; cases h; exact ⟨hy, e⟩
  · rintro ⟨h1, h2⟩
    exact ⟨_, h1, by rw [h2]; rfl⟩
end SP
namespace SP
open PySem PySem.Spec PyProof.Rows L2 DD
theorem wnames_is (b : Bk) (l : Lst) : l.filterMap (fun x => (ruleFor b x.2).map fun _ => Dt.str x.1) = (wNames b l).map Dt.str := by
  unfold wNames wished
  rw [List.map_filterMap, List.map_filterMap]
  congr 1
  funext x
  cases ruleFor b x.2 <;> rfl
theorem filterMap_sub {α β γ : Type} (f : α → Option β) (g : β → γ) (h : α → γ) (hf : ∀ a b, f a = some b → g b = h a) : ∀ l : List α, ((l.filterMap f).map g).Sublist (l.map h)
  | [] => .slnil
  | a :: l => by
    rw [List.filterMap_cons, List.map_cons]
    cases e : f a with
    | none => exact (filterMap_sub f g h hf l).cons _
    | some b =>
      dsimp only
      rw [List.map_cons, hf a b e]
      exact (filterMap_sub f g h hf l).cons_cons _
theorem wished_sub (b : Bk) (l : Lst) : ((wished b l).map (·.n)).Sublist (l.map (·.1)) := by
  unfold wished
  refine filterMap_sub _ _ _ (fun x y h => ?_) l
  cases e : ruleFor b x.2 with
  | none => rw [e] at h; cases h
  | some r => rw [e] at h; cases h; rfl
theorem wished_nd {b : Bk} {l : Lst} (h : LOk l) : ((wished b l).map (·.n)).Nodup := h.nodup.sublist (wished_sub b l)
theorem wished_len {b : Bk} {l : Lst} (h : LOk l) : (wished b l).length ≤ 10 := by
  have := (wished_sub b l).length_le
  rw [List.length_map, List.length_map] at this
  exact Nat.le_trans this h.len
/-- a dict comprehension over data, the keys new ones -/
structure DcJ {α : Type} (as : List α) (f : α → Option (Key × Dt)) (st : Store) (i : Nat) (acc : List (Key × Sv)) (st' : Store) : Prop where
  st : st' = st
  acc : acc = ((as.take i).filterMap f).map fun kv => (kv.1, Sv.dat kv.2)
theorem putD_new {κ α : Type} [DecidableEq κ] {kvs : List (κ × α)} {k : κ} {a : α} (h : k ∉ kvs.map (·.1)) : putD kvs k a = kvs ++ [(k, a)] := by
  unfold putD
  rw [if_neg]
  intro z
  obtain ⟨x, hx, e⟩ := List.any_eq_true.mp z
  exact h (List.mem_map.mpr ⟨x, hx, of_decide_eq_true e⟩)
theorem allK_map : ∀ ds : List (Key × Dt), AllK (ds.map fun kv => (kv.1, Sv.dat kv.2)) ds
  | [] => .nil
  | a :: as => .cons (allK_map as)
theorem dc_yes {α : Type} {as : List α} {f : α → Option (Key × Dt)} {st : Store} {i : Nat} {acc : List (Key × Sv)} {D : Addr} {a : α} {d0 v : Dt} {k : Key} (hl : as.length ≤ sizeLine) (hn : ((as.filterMap f).map (·.1)).Nodup) (ha : as[i]? = some a) (J : DcJ as f st i acc st) (hf : f a = some (k, v)) (hk : keyD d0 = some k) :
    ∃ dy k' acc' st6, Sv.dat d0 = .dat dy ∧ keyD dy = some k' ∧ ((D, Ob.dic acc) :: st) = (D, .dic acc') :: st6 ∧ acc'.length < sizeLine ∧ DcJ as f st (i + 1) (putD acc' k' (.dat v)) st6 := by
  have hi := (List.getElem?_eq_some_iff.mp ha).1
  have e3 : as = as.take i ++ a :: as.drop (i + 1) := by
    obtain ⟨hl, e⟩ := List.getElem?_eq_some_iff.mp ha
    rw [← e, List.getElem_cons_drop, List.take_append_drop]
  refine ⟨d0, k, acc, st, rfl, hk, rfl, ?_, rfl, ?_⟩
  · have := List.length_filterMap_le f (as.take i)
    rw [List.length_take] at this
    rw [J.acc, List.length_map]
    omega
  · have hnew : k ∉ acc.map (·.1) := by
      rw [J.acc, List.map_map]
      rw [e3, List.filterMap_append, List.filterMap_cons, hf, List.map_append] at hn
      have := (List.nodup_append.mp hn).2.2
      intro z
      exact this k z k (by simp) rfl
    rw [putD_new hnew, J.acc, List.take_succ, ha, List.filterMap_append, List.map_append]
    simp [hf]
theorem dc_pure {α : Type} {g : DG} {tt : DT} {tk tv : DE} {vs : List Nat} {xs : List Sv} {Δ : List Sv} {st : Store} {ok : OK} (as : List α) (e : α → Dt) (f : α → Option (Key × Dt)) (hx : xs = as.map fun a => .dat (e a))
    (hb : ∀ (i : Nat) (a : α) (D : Addr) acc, as[i]? = some a → D ∉ keys st → DcJ as f st i acc st → g (.dat (e a)) (wipeD Δ vs) ((D, .dic acc) :: st) fun Δ2 st2 => tt Δ2 st2 (fun b st3 =>
      (b = true → tk Δ2 st3 (fun y st4 => tv Δ2 st4 (fun z st5 => ∃ dy k acc' st6, y = .dat dy ∧ keyD dy = some k ∧ st5 = (D, .dic acc') :: st6 ∧ acc'.length < sizeLine ∧ DcJ as f st (i + 1) (putD acc' k z) st6) fun _ _ => False) fun _ _ => False) ∧
      (b = false → ∃ acc' st5, st3 = (D, .dic acc') :: st5 ∧ DcJ as f st (i + 1) acc' st5)) fun _ _ => False)
    (hk : ok (.dat (.dic (as.filterMap f))) st) : dcD g tt tk tv vs xs Δ st ok := by
  subst hx
  rw [dcD_eq]
  intro D hD
  refine ⟨DcJ as f st, ⟨rfl, by simp⟩, ?_, ?_⟩
  · rintro i d acc st' hd J hD'
    obtain rfl := J.st
    rw [List.getElem?_map] at hd
    cases ea : as[i]? with
    | none => rw [ea] at hd; cases hd
    | some a =>
      rw [ea] at hd
      cases hd
      exact hb i a D acc ea hD' J
  · rintro acc st' J
    obtain rfl := J.st
    have e := J.acc
    rw [List.length_map, List.take_length] at e
    subst e
    exact ⟨_, allK_map _, hk⟩
theorem fm_some {α β : Type} (f : α → β) (l : List α) : l.filterMap (fun x => some (f x)) = l.map f := by
  rw [show (fun x => some (f x)) = some ∘ f from rfl, List.filterMap_eq_map]
theorem windows_is (b : Bk) (l : Lst) : Dt.dic ((wished b l).filterMap fun x => some ((Sum.inr x.n : Key), winD x.win)) = dicD winD (windows b l) := by
  unfold dicD windows
  rw [List.map_map]
  congr 1
  exact fm_some _ _
theorem nodup_inr {l : List Str} (h : l.Nodup) : (l.map fun n => (Sum.inr n : Key)).Nodup := by
  unfold List.Nodup at *
  rw [List.pairwise_map]
  exact h.imp fun {a b} k e => k (Sum.inr.inj e)
theorem windows_nd {b : Bk} {l : Lst} (h : LOk l) : (((wished b l).filterMap fun x => some ((Sum.inr x.n : Key), winD x.win)).map (·.1)).Nodup := by
  have e : ((wished b l).filterMap fun x => some ((Sum.inr x.n : Key), winD x.win)).map (·.1) = ((wished b l).map (·.n)).map fun n => (Sum.inr n : Key) := by
    rw [show (fun x : Wi => some ((Sum.inr x.n : Key), winD x.win)) = some ∘ fun x => ((Sum.inr x.n : Key), winD x.win) from rfl, List.filterMap_eq_map, List.map_map, List.map_map]
    rfl
  rw [e]
  exact nodup_inr (wished_nd h)
theorem sortN_perm (ns : List Str) : (sortN ns).Perm ns := List.mergeSort_perm _ _
theorem asc_is (p : Plan) : Dt.dic ((sortN (p.map (·.1))).filterMap fun n => some ((Sum.inr n : Key), Dt.int ((look p n).getD 0))) = dicD .int (asc p) := by
  unfold dicD asc
  rw [List.map_map]
  congr 1
  exact fm_some _ _
theorem asc_nd {p : Plan} (h : (p.map (·.1)).Nodup) : (((sortN (p.map (·.1))).filterMap fun n => some ((Sum.inr n : Key), Dt.int ((look p n).getD 0))).map (·.1)).Nodup := by
  have e : ((sortN (p.map (·.1))).filterMap fun n => some ((Sum.inr n : Key), Dt.int ((look p n).getD 0))).map (·.1) = (sortN (p.map (·.1))).map fun n => (Sum.inr n : Key) := by
    rw [show (fun n : Str => some ((Sum.inr n : Key), Dt.int ((look p n).getD 0))) = some ∘ fun n => ((Sum.inr n : Key), Dt.int ((look p n).getD 0)) from rfl, List.filterMap_eq_map, List.map_map]
    rfl
  rw [e]
  exact nodup_inr ((sortN_perm _).nodup_iff.mpr h)
theorem look_is {α : Type} {l : List (Str × α)} {n : Str} (h : n ∈ l.map (·.1)) : ∃ a, look l n = some a := by
  unfold look
  cases e : l.find? (fun x => decide (x.1 = n)) with
  | some x => exact ⟨x.2, rfl⟩
  | none =>
    obtain ⟨x, hx, rfl⟩ := List.mem_map.mp h
    have := List.find?_eq_none.mp e x hx
    simp at this
theorem row_of (r : Row) : PyOf (rowD r) (rowP r) := .tup (.cons (.int _) (.cons (.int _) (.cons (ep_of _) .nil)))
theorem row_alike (rs : List Row) : PySem.W.AllAlike (rs.map rowP) := by
  intro d hd d' hd'
  obtain ⟨r, _, rfl⟩ := List.mem_map.mp hd
  obtain ⟨r', _, rfl⟩ := List.mem_map.mp hd'
  simp [rowP, epP, PySem.W.alike, PySem.W.alikeAll]
theorem row_sortable (rs : List Row) : PySem.W.Sortable (rs.map rowP) := by
  refine .inl fun d hd => ?_
  obtain ⟨r, _, rfl⟩ := List.mem_map.mp hd
  exact ⟨_, _, rfl⟩
theorem row_depth (r : Row) : (rowP r).depth ≤ 30 := by simp [rowP, epP, PyData.depth, PyData.depthAll]
theorem bn_of (r : Bn) : PyOf (bnD r) (bnP r) := .tup (.cons (.int _) (.cons (.str _) .nil))
theorem bn_alike (rs : List Bn) : PySem.W.AllAlike (rs.map bnP) := by
  intro d hd d' hd'
  obtain ⟨r, _, rfl⟩ := List.mem_map.mp hd
  obtain ⟨r', _, rfl⟩ := List.mem_map.mp hd'
  simp [bnP, PySem.W.alike, PySem.W.alikeAll]
theorem bn_sortable (rs : List Bn) : PySem.W.Sortable (rs.map bnP) := by
  refine .inl fun d hd => ?_
  obtain ⟨r, _, rfl⟩ := List.mem_map.mp hd
  exact ⟨_, _, rfl⟩
theorem bn_depth (r : Bn) : (bnP r).depth ≤ 30 := by simp [bnP, PyData.depth, PyData.depthAll]
theorem fold_snoc {α β : Type} (f : α → β) (as : List α) (acc : List β) : as.foldl (fun s a => s ++ [f a]) acc = acc ++ as.map f := by
  induction as generalizing acc with
  | nil => simp
  | cons a as ih => rw [List.foldl_cons, ih, List.map_cons, List.append_assoc]; rfl
theorem allD_of {α : Type} (f : α → Dt) (as : List α) : AllD (as.map fun a => Sv.dat (f a)) (as.map f) := by
  rw [show (fun a => Sv.dat (f a)) = Sv.dat ∘ f from rfl, ← List.map_map]
  exact .map _
theorem dedup_len (as : List SP.Row) (acc : List Ep) : (as.foldl (fun acc r => if r.2.2 ∈ acc then acc else acc ++ [r.2.2]) acc).length ≤ acc.length + as.length := by
  induction as generalizing acc with
  | nil => simp
  | cons a as ih =>
    rw [List.foldl_cons]
    refine Nat.le_trans (ih _) ?_
    by_cases h : a.2.2 ∈ acc
    · rw [if_pos h, List.length_cons]; omega
    · rw [if_neg h, List.length_append, List.length_cons, List.length_cons, List.length_nil]; omega
theorem rows_perm (b : Bk) (l : Lst) : (sortedRows b l).Perm ((wished b l).map Wi.row) := List.mergeSort_perm _ _
theorem rows_len {b : Bk} {l : Lst} (h : LOk l) : (sortedRows b l).length ≤ 10 := by
  rw [(rows_perm b l).length_eq, List.length_map]
  exact wished_len h
theorem row_word {b : Bk} {l : Lst} (h : LOk l) {r : SP.Row} (hr : r ∈ sortedRows b l) : isWord r.2.2.1 = true := by
  obtain ⟨x, hx, rfl⟩ := List.mem_map.mp ((rows_perm b l).mem_iff.mp hr)
  exact (h.ok _ (wished_mem.mp hx).1).2.sh
theorem fold_filter {α β : Type} (q : α → Bool) (f : α → β) (as : List α) (acc : List β) : as.foldl (fun s a => if q a = true then s ++ [f a] else s) acc = acc ++ (as.filter q).map f := by
  induction as generalizing acc with
  | nil => simp
  | cons a as ih =>
    rw [List.foldl_cons, ih]
    cases h : q a <;> simp [h]
def bnRaw (b : Bk) (l : Lst) (e : Ep) : List Bn := ((wished b l).filter fun x => decide (x.s.ep = e)).map Wi.bn
theorem bn_perm (b : Bk) (l : Lst) (e : Ep) : (bnOf b l e).Perm (bnRaw b l e) := List.mergeSort_perm _ _
theorem bn_len {b : Bk} {l : Lst} (h : LOk l) (e : Ep) : (bnRaw b l e).length ≤ 10 := by
  unfold bnRaw
  rw [List.length_map]
  exact Nat.le_trans (List.length_filter_le _ _) (wished_len h)
theorem bn_pos {b : Bk} {l : Lst} {e : Ep} {x : Wi} (hx : x ∈ wished b l) (he : x.s.ep = e) : bnRaw b l e ≠ [] := by
  have : x.bn ∈ bnRaw b l e := List.mem_map.mpr ⟨x, List.mem_filter.mpr ⟨hx, decide_eq_true he⟩, rfl⟩
  intro z
  rw [z] at this
  cases this
theorem getD_own {α : Type} (f : α → Sv) (l : List (Str × α)) (n : Str) : getD (l.map fun x => ((Sum.inr x.1 : Key), f x.2)) (.inr n) = (look l n).map f := by
  unfold getD look
  induction l with
  | nil => rfl
  | cons a l ih =>
    rw [List.map_cons, List.find?_cons, List.find?_cons]
    have e : decide ((Sum.inr a.1 : Key) = Sum.inr n) = decide (a.1 = n) := by simp
    dsimp only
    rw [e]
    cases decide (a.1 = n) with
    | true => rfl
    | false => exact ih
theorem fm_if {α β : Type} (q : α → Bool) (f : α → β) (l : List α) : l.filterMap (fun x => if q x = true then some (f x) else none) = (l.filter q).map f := by
  induction l with
  | nil => rfl
  | cons a l ih =>
    rw [List.filterMap_cons, List.filter_cons]
    cases h : q a with
    | true => simp [ih]
    | false => simp [ih]
theorem wishes_fold (b : Bk) (l : Lst) : (sortedRows b l).foldl (fun acc r => if r.2.2 ∈ acc then acc else acc ++ [r.2.2]) [] = wishes b l := by
  unfold wishes dedup
  rw [List.foldl_map]
end SP
namespace SP
open PySem PySem.Spec PyProof.Rows L2 DD
@[irreducible] def ctLeast : Ct := fun ss st ok _ => ∃ (ws : List (Str × Win)) (p : Plan) (w : Win) (k0 : Nat), (∃ dp : Sv, ss = [.dat (dicD winD ws), dp, .dat (winD w)] ∧ (dp = .dat (dicD .int p) ∨ ∃ (q : Addr) (j : Nat), dp = .own q ∧ st[j]? = some (q, Ob.dic (p.map fun x => ((Sum.inr x.1 : Key), dI x.2))))) ∧ POk p ∧ (∀ x ∈ p, (look ws x.1).isSome) ∧ (∀ x ∈ p, x.2 < (k0 : Int)) ∧
  ∀ r : Nat, r ≤ k0 → (∀ r' : Nat, r' < r → onRecW ws p (r' : Int) w ≠ []) → onRecW ws p (r : Int) w = [] → ok (dI (r : Int)) st
theorem ctLeast_eq {ss : List Sv} {st : Store} {ok : OK} {ex : EK} : ctLeast ss st ok ex = ∃ (ws : List (Str × Win)) (p : Plan) (w : Win) (k0 : Nat), (∃ dp : Sv, ss = [.dat (dicD winD ws), dp, .dat (winD w)] ∧ (dp = .dat (dicD .int p) ∨ ∃ (q : Addr) (j : Nat), dp = .own q ∧ st[j]? = some (q, Ob.dic (p.map fun x => ((Sum.inr x.1 : Key), dI x.2))))) ∧ POk p ∧ (∀ x ∈ p, (look ws x.1).isSome) ∧ (∀ x ∈ p, x.2 < (k0 : Int)) ∧
  ∀ r : Nat, r ≤ k0 → (∀ r' : Nat, r' < r → onRecW ws p (r' : Int) w ≠ []) → onRecW ws p (r : Int) w = [] → ok (dI (r : Int)) st := by unfold ctLeast; rfl
/-- the first receiver that is free -/
def freeAt (ws : List (Str × Win)) (p : Plan) (k : Nat) (n : Str) : Option Nat := (List.range k).find? fun r => (onRec ws p (r : Int) n).isEmpty
def firstFree (ws : List (Str × Win)) (p : Plan) (k : Nat) : List Str → Option (Str × Int)
  | [] => none
  | n :: ns => match freeAt ws p k n with
    | some r => some (n, (r : Int))
    | none => firstFree ws p k ns
def addTo (p : Plan) : Option (Str × Int) → Plan
  | some x => p ++ [x]
  | none => p
def takeStep (b : Bk) (l : Lst) (k : Nat) (p : Plan) (e : Ep) : Plan := addTo p (firstFree (windows b l) p k (sendsOf b l e))
def taken (b : Bk) (l : Lst) (k : Nat) : Plan := (wishes b l).foldl (takeStep b l k) []
def ctTaken (c : Cl) : Ct := ctBL c (fun k : Nat => [dI (k : Int)]) (fun _ _ k => k ≤ 10) fun b l k => dicD .int (taken b l k)
theorem free_some {ws : List (Str × Win)} {p : Plan} {k r : Nat} {n : Str} (h : r < k) (h1 : ∀ r' : Nat, r' < r → onRec ws p (r' : Int) n ≠ []) (h2 : onRec ws p (r : Int) n = []) : freeAt ws p k n = some r := by
  unfold freeAt
  rw [List.find?_range_eq_some]
  refine ⟨by rw [h2]; rfl, List.mem_range.mpr h, fun j hj => ?_⟩
  cases e : onRec ws p (j : Int) n with
  | nil => exact absurd e (h1 j hj)
  | cons => rfl
theorem free_none {ws : List (Str × Win)} {p : Plan} {k r : Nat} {n : Str} (h : k ≤ r) (h1 : ∀ r' : Nat, r' < r → onRec ws p (r' : Int) n ≠ []) : freeAt ws p k n = none := by
  unfold freeAt
  rw [List.find?_eq_none]
  intro j hj
  cases e : onRec ws p (j : Int) n with
  | nil => exact absurd e (h1 j (by have := List.mem_range.mp hj; omega))
  | cons => simp
theorem on_out {ws : List (Str × Win)} {p : Plan} {r : Int} {w : Win} (h : ∀ x ∈ p, x.2 < r) : onRecW ws p r w = [] := by
  unfold onRecW
  have e : ((sortN (p.map (·.1))).filter fun o => decide (look p o = some r)) = [] := by
    rw [List.filter_eq_nil_iff]
    intro o ho z
    have := h _ (look_some (of_decide_eq_true z))
    exact absurd this (Int.lt_irrefl _)
  rw [e]
  rfl
end SP
namespace SP
open PySem PySem.Spec PyProof.Rows L2 DD
theorem wished_inj {b : Bk} {l : Lst} (hl : LOk l) {x y : Wi} (hx : x ∈ wished b l) (hy : y ∈ wished b l) (h : x.n = y.n) : x = y := by
  obtain ⟨x1, x2⟩ := wished_mem.mp hx
  obtain ⟨y1, y2⟩ := wished_mem.mp hy
  have e1 := hl.get x1
  have e2 := hl.get y1
  dsimp only at e1 e2
  rw [h, e2] at e1
  have e3 : y.s = x.s := Option.some.inj e1
  rw [e3, x2] at y2
  have e4 := Option.some.inj y2
  cases x; cases y
  simp_all
theorem dedup_nd (es acc : List Ep) (h : acc.Nodup) : (es.foldl (fun acc e => if e ∈ acc then acc else acc ++ [e]) acc).Nodup := by
  induction es generalizing acc with
  | nil => exact h
  | cons e es ih =>
    rw [List.foldl_cons]
    apply ih
    by_cases z : e ∈ acc
    · rw [if_pos z]; exact h
    · rw [if_neg z]
      refine List.nodup_append.mpr ⟨h, by simp, fun a ha b hb => ?_⟩
      rw [List.mem_singleton.mp hb]
      intro q
      exact z (q ▸ ha)
theorem dedup_mem (es acc : List Ep) (x : Ep) : x ∈ es.foldl (fun acc e => if e ∈ acc then acc else acc ++ [e]) acc ↔ x ∈ acc ∨ x ∈ es := by
  induction es generalizing acc with
  | nil => simp
  | cons e es ih =>
    rw [List.foldl_cons, ih]
    by_cases z : e ∈ acc
    · rw [if_pos z]
      constructor
      · rintro (h | h)
        · exact .inl h
        · exact .inr (List.mem_cons_of_mem _ h)
      · rintro (h | h)
        · exact .inl h
        · rcases List.mem_cons.mp h with rfl | h
          · exact .inl z
          · exact .inr h
    · rw [if_neg z]
      constructor
      · rintro (h | h)
        · rcases List.mem_append.mp h with h | h
          · exact .inl h
          · exact .inr (List.mem_singleton.mp h ▸ List.mem_cons_self)
        · exact .inr (List.mem_cons_of_mem _ h)
      · rintro (h | h)
        · exact .inl (List.mem_append_left _ h)
        · rcases List.mem_cons.mp h with rfl | h
          · exact .inl (List.mem_append_right _ (by simp))
          · exact .inr h
theorem wishes_nd (b : Bk) (l : Lst) : (wishes b l).Nodup := dedup_nd _ _ (by simp)
theorem wishes_mem {b : Bk} {l : Lst} {e : Ep} : e ∈ wishes b l ↔ ∃ x ∈ wished b l, x.s.ep = e := by
  unfold wishes dedup
  rw [dedup_mem]
  constructor
  · rintro (h | h)
    · cases h
    · obtain ⟨r, hr, rfl⟩ := List.mem_map.mp h
      obtain ⟨x, hx, rfl⟩ := List.mem_map.mp ((rows_perm b l).mem_iff.mp hr)
      exact ⟨x, hx, rfl⟩
  · rintro ⟨x, hx, rfl⟩
    exact .inr (List.mem_map.mpr ⟨x.row, (rows_perm b l).mem_iff.mpr (List.mem_map.mpr ⟨x, hx, rfl⟩), rfl⟩)
theorem wishes_len {b : Bk} {l : Lst} (h : LOk l) : (wishes b l).length ≤ 10 := by
  have h1 := dedup_len (sortedRows b l) []
  rw [wishes_fold] at h1
  have h2 := rows_len (b := b) h
  simp at h1
  omega
theorem sends_mem {b : Bk} {l : Lst} {e : Ep} {n : Str} : n ∈ sendsOf b l e ↔ ∃ x ∈ wished b l, x.n = n ∧ x.s.ep = e := by
  unfold sendsOf
  rw [List.mem_map]
  constructor
  · rintro ⟨r, hr, rfl⟩
    obtain ⟨x, hx, rfl⟩ := List.mem_map.mp ((bn_perm b l e).mem_iff.mp hr)
    obtain ⟨h1, h2⟩ := List.mem_filter.mp hx
    exact ⟨x, h1, rfl, of_decide_eq_true h2⟩
  · rintro ⟨x, hx, rfl, he⟩
    exact ⟨x.bn, (bn_perm b l e).mem_iff.mpr (List.mem_map.mpr ⟨x, List.mem_filter.mpr ⟨hx, decide_eq_true he⟩, rfl⟩), rfl⟩
theorem win_look {b : Bk} {l : Lst} (hl : LOk l) {x : Wi} (hx : x ∈ wished b l) : look (windows b l) x.n = some x.win := by
  have h : (x.n, x.win) ∈ windows b l := List.mem_map.mpr ⟨x, hx, rfl⟩
  refine look_mem (x := (x.n, x.win)) ?_ h
  have e : (windows b l).map (·.1) = (wished b l).map (·.n) := by unfold windows; rw [List.map_map]; rfl
  rw [e]
  exact wished_nd hl
theorem win_of {b : Bk} {l : Lst} (hl : LOk l) {x : Wi} (hx : x ∈ wished b l) : winOf (windows b l) x.n = x.win := by
  unfold winOf
  rw [win_look hl hx]
  rfl
theorem free_lt {ws : List (Str × Win)} {p : Plan} {k r : Nat} {n : Str} (h : freeAt ws p k n = some r) : r < k := by
  unfold freeAt at h
  rw [List.find?_range_eq_some] at h
  exact List.mem_range.mp h.2.1
theorem first_mem {ws : List (Str × Win)} {p : Plan} {k : Nat} : ∀ {ns : List Str} {x : Str × Int}, firstFree ws p k ns = some x → x.1 ∈ ns ∧ ∃ r : Nat, r < k ∧ x.2 = (r : Int)
  | [], x, h => by cases h
  | n :: ns, x, h => by
    unfold firstFree at h
    cases e : freeAt ws p k n with
    | some r => rw [e] at h; cases h; exact ⟨List.mem_cons_self, r, free_lt e, rfl⟩
    | none =>
      rw [e] at h
      obtain ⟨h1, h2⟩ := first_mem h
      exact ⟨List.mem_cons_of_mem _ h1, h2⟩
theorem first_some {ws : List (Str × Win)} {p : Plan} {k r : Nat} {n : Str} : ∀ {ns : List Str}, ns.find? (fun n => (freeAt ws p k n).isSome) = some n → freeAt ws p k n = some r → firstFree ws p k ns = some (n, (r : Int))
  | [], h, _ => by cases h
  | m :: ns, h, hr => by
    rw [List.find?_cons] at h
    unfold firstFree
    cases e : freeAt ws p k m with
    | some r' =>
      rw [e] at h
      dsimp only [Option.isSome] at h
      cases h
      rw [e] at hr
      cases hr
      rfl
    | none =>
      rw [e] at h
      exact first_some h hr
theorem first_none {ws : List (Str × Win)} {p : Plan} {k : Nat} : ∀ {ns : List Str}, ns.find? (fun n => (freeAt ws p k n).isSome) = none → firstFree ws p k ns = none
  | [], _ => rfl
  | m :: ns, h => by
    rw [List.find?_cons] at h
    unfold firstFree
    cases e : freeAt ws p k m with
    | some r' => rw [e] at h; cases h
    | none => rw [e] at h; exact first_none h
structure PInv (b : Bk) (l : Lst) (k : Nat) (pre : List Ep) (p : Plan) : Prop where
  mem : ∀ x ∈ p, (∃ w ∈ wished b l, w.n = x.1 ∧ w.s.ep ∈ pre) ∧ 0 ≤ x.2 ∧ x.2 < (k : Int)
  nd : (p.map (·.1)).Nodup
  len : p.length ≤ pre.length
theorem PInv.new {b : Bk} {l : Lst} {k : Nat} {pre : List Ep} {p : Plan} (hl : LOk l) (h : PInv b l k pre p) {e : Ep} (he : e ∉ pre) {n : Str} (hn : n ∈ sendsOf b l e) : n ∉ p.map (·.1) := by
  intro z
  obtain ⟨x, hx, rfl⟩ := List.mem_map.mp z
  obtain ⟨⟨w, hw, e1, e2⟩, _⟩ := h.mem x hx
  obtain ⟨w', hw', e3, e4⟩ := sends_mem.mp hn
  have := wished_inj hl hw hw' (by rw [e1, e3])
  subst this
  exact he (e4 ▸ e2)
theorem PInv.step {b : Bk} {l : Lst} {k : Nat} {pre : List Ep} {p : Plan} (hl : LOk l) (h : PInv b l k pre p) {e : Ep} (he : e ∉ pre) : PInv b l k (pre ++ [e]) (takeStep b l k p e) := by
  have up : ∀ x ∈ p, (∃ w ∈ wished b l, w.n = x.1 ∧ w.s.ep ∈ pre ++ [e]) ∧ 0 ≤ x.2 ∧ x.2 < (k : Int) := fun x hx => by
    obtain ⟨⟨w, hw, e1, e2⟩, r⟩ := h.mem x hx
    exact ⟨⟨w, hw, e1, List.mem_append_left _ e2⟩, r⟩
  unfold takeStep
  cases hf : firstFree (windows b l) p k (sendsOf b l e) with
  | none => exact ⟨up, h.nd, by rw [List.length_append]; exact Nat.le_trans h.len (Nat.le_add_right _ _)⟩
  | some y =>
    obtain ⟨h1, r, h2, h3⟩ := first_mem hf
    have hnew := h.new hl he h1
    refine ⟨fun x hx => ?_, ?_, by unfold addTo; rw [List.length_append, List.length_append]; exact Nat.add_le_add_right h.len 1⟩
    · rcases List.mem_append.mp hx with hx | hx
      · exact up x hx
      · rw [List.mem_singleton.mp hx]
        obtain ⟨w', hw', e3, e4⟩ := sends_mem.mp h1
        exact ⟨⟨w', hw', e3, List.mem_append_right _ (by rw [e4]; simp)⟩, by rw [h3]; omega, by rw [h3]; omega⟩
    · unfold addTo
      rw [List.map_append]
      refine List.nodup_append.mpr ⟨h.nd, by simp, fun a ha c hc => ?_⟩
      have : c = y.1 := by simpa using hc
      rw [this]
      intro z
      exact hnew (z ▸ ha)
theorem pinv_of {b : Bk} {l : Lst} (hl : LOk l) (k : Nat) : ∀ (pre es : List Ep) (p : Plan), (pre ++ es).Nodup → PInv b l k pre p → PInv b l k (pre ++ es) (es.foldl (takeStep b l k) p)
  | pre, [], p, _, h => by rw [List.append_nil]; exact h
  | pre, e :: es, p, nd, h => by
    rw [List.foldl_cons]
    have hne : e ∉ pre := fun z => (List.nodup_append.mp nd).2.2 e z e List.mem_cons_self rfl
    have := pinv_of hl k (pre ++ [e]) es (takeStep b l k p e) (by rw [List.append_assoc]; exact nd) (h.step hl hne)
    rw [List.append_assoc] at this
    exact this
theorem pinv_pre {b : Bk} {l : Lst} (hl : LOk l) (k : Nat) {pre post : List Ep} {e : Ep} (h : wishes b l = pre ++ e :: post) : PInv b l k pre (pre.foldl (takeStep b l k) []) ∧ e ∉ pre := by
  have nd := wishes_nd b l
  rw [h] at nd
  have nd1 := (List.nodup_append.mp nd)
  refine ⟨?_, fun z => nd1.2.2 e z e List.mem_cons_self rfl⟩
  have := pinv_of (b := b) hl k [] pre [] (by simpa using nd1.1) ⟨fun x hx => (by cases hx), by simp, by simp⟩
  simpa using this
theorem taken_inv {b : Bk} {l : Lst} (hl : LOk l) (k : Nat) : PInv b l k (wishes b l) (taken b l k) := by
  unfold taken
  have := pinv_of (b := b) hl k [] (wishes b l) [] (by simpa using wishes_nd b l) ⟨fun x hx => (by cases hx), by simp, by simp⟩
  simpa using this
theorem PInv.ok {b : Bk} {l : Lst} (hl : LOk l) {k : Nat} {pre : List Ep} {p : Plan} (h : PInv b l k pre p) (hp : pre.length ≤ 10) : POk p ∧ (∀ x ∈ p, (look (windows b l) x.1).isSome) := by
  refine ⟨⟨h.nd, Nat.le_trans h.len hp⟩, fun x hx => ?_⟩
  obtain ⟨⟨w, hw, e1, _⟩, _⟩ := h.mem x hx
  rw [← e1, win_look hl hw]
  rfl
end SP
namespace SP
open PySem PySem.Spec PyProof.Rows L2 DD
def ctIsRec : Ct := fun ss st ok _ => ∃ k : Nat, ss = [dI (k : Int)] ∧ 1 ≤ k ∧ k ≤ 10 ∧ ok (.dat (.bl true)) st
def ctChkRec : Ct := fun ss st ok _ => ∃ k : Nat, ss = [dI (k : Int)] ∧ 1 ≤ k ∧ k ≤ 10 ∧ ok (.dat .non) st
def ownPlan (b : Bk) (l : Lst) (k : Nat) : Plan := asc (taken b l k)
def ctOwn (c : Cl) : Ct := ctBL c (fun k : Nat => [dI (k : Int)]) (fun _ _ k => 1 ≤ k ∧ k ≤ 10) fun b l k => dicD .int (ownPlan b l k)
def epAt (l : Lst) (n : Str) : Ep := ((look l n).map Snd.ep).getD ("", 0)
def recorded (b : Bk) (l : Lst) (k : Nat) : List Ep := (ownPlan b l k).map fun x => epAt l x.1
theorem own_names (b : Bk) (l : Lst) (k : Nat) : (ownPlan b l k).map (·.1) = sortN ((taken b l k).map (·.1)) := by
  unfold ownPlan asc
  rw [List.map_map]
  exact List.map_id _
theorem own_len {b : Bk} {l : Lst} (hl : LOk l) (k : Nat) : (ownPlan b l k).length ≤ 10 := by
  have h := congrArg List.length (own_names b l k)
  rw [List.length_map, (sortN_perm _).length_eq, List.length_map] at h
  have := (taken_inv (b := b) hl k).len
  have := wishes_len (b := b) hl
  omega
theorem own_mem {b : Bk} {l : Lst} (hl : LOk l) {k : Nat} {x : Str × Int} (hx : x ∈ ownPlan b l k) : x ∈ taken b l k := by
  unfold ownPlan asc at hx
  obtain ⟨n, hn, rfl⟩ := List.mem_map.mp hx
  obtain ⟨v, hv⟩ := look_is ((sortN_perm _).mem_iff.mp hn)
  rw [hv]
  exact look_some hv
theorem own_wish {b : Bk} {l : Lst} (hl : LOk l) {k : Nat} {x : Str × Int} (hx : x ∈ ownPlan b l k) : ∃ w ∈ wished b l, w.n = x.1 ∧ look l x.1 = some w.s := by
  obtain ⟨⟨w, hw, e1, _⟩, _⟩ := (taken_inv hl k).mem x (own_mem hl hx)
  exact ⟨w, hw, e1, by rw [← e1]; exact hl.get (wished_mem.mp hw).1⟩
theorem rec_word {b : Bk} {l : Lst} (hl : LOk l) {k : Nat} {e : Ep} (he : e ∈ recorded b l k) : isWord e.1 = true := by
  obtain ⟨x, hx, rfl⟩ := List.mem_map.mp he
  obtain ⟨w, hw, e1, e2⟩ := own_wish hl hx
  unfold epAt
  rw [e2]
  exact (hl.ok _ (wished_mem.mp hw).1).2.sh
theorem eps_depth : ∀ es : List Ep, PyData.depthAll (es.map epP) ≤ 1
  | [] => Nat.zero_le _
  | e :: es => by
    rw [List.map_cons, PyData.depthAll]
    have h1 : (epP e).depth ≤ 1 := by simp [epP, PyData.depth, PyData.depthAll]
    have := eps_depth es
    omega
theorem eps_shaped (es : List Ep) (h : ∀ e ∈ es, isWord e.1 = true) : SeqAt.shaped (.list (es.map epP)) = true := by
  have h1 : (PyData.list (es.map epP)).canLay0 = true := by rw [PyData.canLay0]; exact eps_lay es h
  have h2 : (PyData.list (es.map epP)).depth ≤ 64 := by
    have := eps_depth es
    rw [PyData.depth]
    omega
  unfold SeqAt.shaped
  rw [h1, decide_eq_true h2]
  rfl
theorem cut_to {α : Type} (xs : List α) (j : Nat) (h : j ≤ xs.length) : DD.cutD xs none (some (j : Int)) = xs.take j := by
  unfold DD.cutD
  rw [HT.sIx_none, HT.sIx_nat, Nat.min_eq_left h, List.drop_zero, Nat.sub_zero]
theorem own_nd {b : Bk} {l : Lst} (hl : LOk l) (k : Nat) : ((ownPlan b l k).map (·.1)).Nodup := by
  rw [own_names]
  exact (sortN_perm _).nodup_iff.mpr (taken_inv hl k).nd
theorem nodup_of {α : Type} {l : List (Str × α)} {f : Str × α → Key × Dt} (h : (l.map (·.1)).Nodup) (hf : ∀ x, (f x).1 = Sum.inr x.1 := by intro _; rfl) : (l.map ((fun kv : Key × Dt => kv.1) ∘ f)).Nodup := by
  have e : l.map ((fun kv : Key × Dt => kv.1) ∘ f) = (l.map (·.1)).map fun n => (Sum.inr n : Key) := by
    rw [List.map_map]
    exact List.map_congr_left fun x _ => hf x
  rw [e]
  exact nodup_inr h
theorem sends_len {b : Bk} {l : Lst} (hl : LOk l) (e : Ep) : (sendsOf b l e).length ≤ 10 := by
  unfold sendsOf
  rw [List.length_map, (bn_perm b l e).length_eq]
  exact bn_len hl e
end SP
namespace SP
open PySem PySem.Spec PyProof.Rows L2 DD
/-- Book(rules, seen) -/
@[irreducible] def ctBook (c : Cl) : Ct := fun ss st ok _ => ∃ (q : Addr) (st0 : Store) (rs : List Rul) (es : List Ep), ss = [.own q, .dat (.tup (rs.map (Rul.d c.R))), .dat (.tup (es.map epD))] ∧ st = (q, .ins c.B []) :: st0 ∧ rs.length ≤ 6 ∧
  ok (.dat .non) ((q, .ins c.B [("_rules", .dat (.tup (rs.map (Rul.d c.R)))), ("_seen", .dat (.tup (es.map epD)))]) :: st0)
theorem ctBook_eq (c : Cl) {ss : List Sv} {st : Store} {ok : OK} {ex : EK} : ctBook c ss st ok ex = ∃ (q : Addr) (st0 : Store) (rs : List Rul) (es : List Ep), ss = [.own q, .dat (.tup (rs.map (Rul.d c.R))), .dat (.tup (es.map epD))] ∧ st = (q, .ins c.B []) :: st0 ∧ rs.length ≤ 6 ∧
  ok (.dat .non) ((q, .ins c.B [("_rules", .dat (.tup (rs.map (Rul.d c.R)))), ("_seen", .dat (.tup (es.map epD)))]) :: st0) := by unfold ctBook; rfl
theorem own_ok {b : Bk} {l : Lst} (hl : LOk l) (k : Nat) : POk (ownPlan b l k) := ⟨own_nd hl k, own_len hl k⟩
/-- Listing(sendings) -/
@[irreducible] def ctListing (c : Cl) : Ct := fun ss st ok _ => ∃ (q : Addr) (st0 : Store) (l : Lst), ss = [.own q, .dat (dicD (Snd.d c.D) l)] ∧ st = (q, .ins c.L []) :: st0 ∧ l.length ≤ 10 ∧ (l.map (·.1)).Pairwise (fun a b => a.cps.toList < b.cps.toList) ∧ (∀ x ∈ l, isWord x.1 = true) ∧
  ok (.dat .non) ((q, .ins c.L [("_sendings", .dat (dicD (Snd.d c.D) l))]) :: st0)
theorem ctListing_eq (c : Cl) {ss : List Sv} {st : Store} {ok : OK} {ex : EK} : ctListing c ss st ok ex = ∃ (q : Addr) (st0 : Store) (l : Lst), ss = [.own q, .dat (dicD (Snd.d c.D) l)] ∧ st = (q, .ins c.L []) :: st0 ∧ l.length ≤ 10 ∧ (l.map (·.1)).Pairwise (fun a b => a.cps.toList < b.cps.toList) ∧ (∀ x ∈ l, isWord x.1 = true) ∧
  ok (.dat .non) ((q, .ins c.L [("_sendings", .dat (dicD (Snd.d c.D) l))]) :: st0) := by unfold ctListing; rfl
theorem sortN_same {ns : List Str} (h : ns.Pairwise fun a b => a.cps.toList < b.cps.toList) : sortN ns = ns := by
  refine (sort_unique strLe_trans strLe_total strLe_anti (List.Perm.refl ns) (h.imp fun {a b} k => ?_)).symm
  unfold strLe
  exact decide_eq_true (Std.le_of_lt k)
theorem names_of : ∀ ns : List Str, PyOfs (ns.map Dt.str) (ns.map PyData.str)
  | [] => .nil
  | n :: ns => .cons (.str n) (names_of ns)
theorem names_lay (ns : List Str) (h : ∀ n ∈ ns, isWord n = true) : PyData.canLayAll0 (ns.map PyData.str) = true := by
  induction ns with
  | nil => rfl
  | cons e es ih =>
    rw [List.map_cons]
    unfold PyData.canLayAll0
    rw [ih fun e h' => h e (List.mem_cons_of_mem _ h')]
    have hs : PyData.strOk e = true := word_ok (h e List.mem_cons_self)
    simp [PyData.canLay0, hs]
theorem names_depth : ∀ es : List Str, PyData.depthAll (es.map PyData.str) = 0
  | [] => rfl
  | e :: es => by
    rw [List.map_cons, PyData.depthAll, names_depth es]
    simp [PyData.depth]
theorem names_shaped (ns : List Str) (h : ∀ n ∈ ns, isWord n = true) : SeqAt.shaped (.list (ns.map PyData.str)) = true := by
  have h1 : (PyData.list (ns.map PyData.str)).canLay0 = true := by rw [PyData.canLay0]; exact names_lay ns h
  have h2 : (PyData.list (ns.map PyData.str)).depth ≤ 64 := by
    rw [PyData.depth, names_depth]
    decide
  unfold SeqAt.shaped
  rw [h1, decide_eq_true h2]
  rfl
theorem names_eqv : ∀ a b : List Str, PyData.eqv (.list (a.map PyData.str)) (.list (b.map PyData.str)) = decide (a = b) := by
  intro a b
  rw [PyData.eqv]
  induction a generalizing b with
  | nil => cases b <;> simp [PyData.eqvAll]
  | cons x a ih =>
    cases b with
    | nil => simp [PyData.eqvAll]
    | cons y b =>
      rw [List.map_cons, List.map_cons, PyData.eqvAll, ih b]
      by_cases h1 : x = y <;> by_cases h2 : a = b <;> simp [PyData.eqv, h1, h2]
theorem own_word {b : Bk} {l : Lst} (hl : LOk l) {k : Nat} {n : Str} (h : n ∈ (ownPlan b l k).map (·.1)) : isWord n = true := by
  obtain ⟨x, hx, rfl⟩ := List.mem_map.mp h
  obtain ⟨w, hw, e1, e2⟩ := own_wish hl hx
  rw [← e1]
  exact (hl.ok _ (wished_mem.mp hw).1).1
theorem rok_none {r : Rul} (h : ROk r) : wrongR (.str r.show_) (.int r.first) (.int r.last) (.int r.priority) (.int r.before) (.int r.after) = none := by
  have h1 : wordD (.str r.show_) = true := h.sh
  have n : ∀ {i a b : Int}, a ≤ i → i ≤ b → isNum (.int i) a b = true := fun {i a b} x y => by unfold isNum; dsimp only; rw [decide_eq_true x, decide_eq_true y]; rfl
  unfold wrongR
  rw [h1, n h.f1 (Int.le_trans h.f2 h.l2), show inI (.int r.first) = r.first from rfl, n h.f2 h.l2, n h.p1 h.p2, n h.b0 h.b1, n h.a0 h.a1]
  rfl
theorem sok_none {r : Snd} (h : SOk r) : wrongS (.str r.channel) (.str r.show_) (.int r.episode) (.int r.begin_) (.int r.end_) (.int r.late) = none := by
  have h1 : wordD (.str r.show_) = true := h.sh
  have h0 : wordD (.str r.channel) = true := h.ch
  have n : ∀ {i a b : Int}, a ≤ i → i ≤ b → isNum (.int i) a b = true := fun {i a b} x y => by unfold isNum; dsimp only; rw [decide_eq_true x, decide_eq_true y]; rfl
  unfold wrongS
  rw [h0, h1, n h.e1 h.e2, n h.b0 h.b1, show inI (.int r.begin_) = r.begin_ from rfl, n (show r.begin_ + 1 ≤ r.end_ from h.n0) h.n1, n h.l0 h.l1]
  rfl
end SP
namespace SP
open PySem PySem.Spec PyProof.Rows L2 DD
def sndT (s : Snd) : Dt := .tup [.str s.channel, .str s.show_, .int s.episode, .int s.begin_, .int s.end_, .int s.late]
def rulT (r : Rul) : Dt := .tup [.str r.show_, .int r.first, .int r.last, .int r.priority, .int r.before, .int r.after]
def drawnD (b : Bk) (l : Lst) : Dt := .tup [dicD sndT l, .lst (b.rules.map rulT), .tup (b.seen.map epD)]
@[irreducible] def ctLListing (c : Cl) : Ct := fun ss st ok _ => ∃ l : Lst, ss = [.dat (dicD sndT l)] ∧ LOk l ∧ ok (.dat (lstD c l)) st
theorem ctLListing_eq (c : Cl) {ss : List Sv} {st : Store} {ok : OK} {ex : EK} : ctLListing c ss st ok ex = ∃ l : Lst, ss = [.dat (dicD sndT l)] ∧ LOk l ∧ ok (.dat (lstD c l)) st := by unfold ctLListing; rfl
@[irreducible] def ctLBook (c : Cl) : Ct := fun ss st ok _ => ∃ b : Bk, ss = [.dat (.lst (b.rules.map rulT)), .dat (.tup (b.seen.map epD))] ∧ BOk b ∧ ok (.dat (b.d c)) st
theorem ctLBook_eq (c : Cl) {ss : List Sv} {st : Store} {ok : OK} {ex : EK} : ctLBook c ss st ok ex = ∃ b : Bk, ss = [.dat (.lst (b.rules.map rulT)), .dat (.tup (b.seen.map epD))] ∧ BOk b ∧ ok (.dat (b.d c)) st := by unfold ctLBook; rfl
@[irreducible] def ctDr {α : Type} (e : α → List Sv) (pre : Bk → Lst → α → Prop) (res : Bk → Lst → α → Dt) : Ct := fun ss st ok _ => ∃ b l a, ss = .dat (drawnD b l) :: e a ∧ BOk b ∧ LOk l ∧ pre b l a ∧ ok (.dat (res b l a)) st
theorem ctDr_eq {α : Type} (e : α → List Sv) (pre : Bk → Lst → α → Prop) (res : Bk → Lst → α → Dt) {ss : List Sv} {st : Store} {ok : OK} {ex : EK} : ctDr e pre res ss st ok ex = ∃ b l a, ss = .dat (drawnD b l) :: e a ∧ BOk b ∧ LOk l ∧ pre b l a ∧ ok (.dat (res b l a)) st := by unfold ctDr; rfl
theorem dr_len {α : Type} {e : α → List Sv} {pre : Bk → Lst → α → Prop} {res : Bk → Lst → α → Dt} {ss : List Sv} {st : Store} {ok : OK} {ex : EK} {m : Nat} (he : ∀ a, (e a).length = m) (h : ctDr e pre res ss st ok ex) : ss.length = m + 1 := by
  rw [ctDr_eq] at h
  obtain ⟨b, l, a, rfl, _⟩ := h
  show (e a).length + 1 = _
  rw [he]
theorem dr_at {α : Type} {e : α → List Sv} {pre : Bk → Lst → α → Prop} {res : Bk → Lst → α → Dt} {st : Store} {ok : OK} {ex : EK} {b : Bk} {l : Lst} (a : α) {xs : List Sv} (hx : xs = e a) (hb : BOk b) (hl : LOk l) (hp : pre b l a) (k : ok (.dat (res b l a)) st) : ctDr e pre res (.dat (drawnD b l) :: xs) st ok ex := by
  rw [ctDr_eq]
  subst hx
  exact ⟨b, l, a, rfl, hb, hl, hp, k⟩
def optRT : Option Rul → Dt
  | some r => rulT r
  | none => .non
def ctLRule : Ct := ctDr (fun a : Str × Snd => [.dat (.str a.1)]) (fun _ l a => a ∈ l) fun b _ a => optRT (ruleFor b a.2)
def ctLWindow : Ct := ctDr (fun x : Wi => [.dat (.str x.n)]) (fun b l x => x ∈ wished b l) fun _ _ x => winD x.win
def ctLCross : Ct := ctDr (fun x : Wi × Wi => [.dat (.str x.1.n), .dat (.str x.2.n)]) (fun b l x => x.1 ∈ wished b l ∧ x.2 ∈ wished b l) fun _ _ x => .bl (overlap x.2.win x.1.win)
theorem win_pos {b : Bk} {l : Lst} (hb : BOk b) (hl : LOk l) {x : Wi} (hx : x ∈ wished b l) : x.win.1 < x.win.2 := by
  obtain ⟨h1, h2⟩ := wished_mem.mp hx
  have hs := (hl.ok _ h1).2
  have hr : x.r ∈ b.rules := by
    unfold ruleFor ruleOf at h2
    split at h2
    · cases h2
    · exact List.mem_of_find?_eq_some h2
  have hr := hb.ok _ hr
  have := hs.b0
  have := hs.n0
  have := hr.b0
  have := hr.a0
  unfold Wi.win
  dsimp only at *
  split <;> omega
theorem cross_is {a b : Win} (ha : a.1 < a.2) (hb : b.1 < b.2) : decide ((if b.1 > a.1 then b.1 else a.1) < (if b.2 < a.2 then b.2 else a.2)) = overlap b a := by
  unfold overlap
  rw [← Bool.decide_and]
  apply decide_eq_decide.mpr
  split <;> split <;> omega
def epKey (e : Ep) : List Key := [.inr e.1, .inl e.2]
def groupsD (b : Bk) (l : Lst) : Dt := .dtt ((wishes b l).map fun e => (epKey e, namesD (sendsOf b l e)))
def ctLGroups : Ct := ctDr (fun _ : Unit => []) (fun _ _ _ => True) fun b l _ => groupsD b l
end SP
namespace SP
open PySem PySem.Spec PyProof.Rows L2 DD
abbrev rowLe : SP.Row → SP.Row → Bool := PySem.W.dataLe false rowP
abbrev bnLe : Bn → Bn → Bool := PySem.W.dataLe false bnP
theorem row_toks (a b : SP.Row) (h : PySem.W.keyToks (rowP a) = PySem.W.keyToks (rowP b)) : a = b := by
  obtain ⟨a1, a2, a3, a4⟩ := a
  obtain ⟨b1, b2, b3, b4⟩ := b
  simp [rowP, epP, PySem.W.keyToks, PySem.W.keyToksAll] at h
  obtain ⟨h1, h2, h3, h4⟩ := h
  subst h1; subst h2; subst h4
  rw [str_ext (x := a3) (y := b3) (by simpa using h3)]
theorem bn_toks (a b : Bn) (h : PySem.W.keyToks (bnP a) = PySem.W.keyToks (bnP b)) : a = b := by
  obtain ⟨a1, a2⟩ := a
  obtain ⟨b1, b2⟩ := b
  simp [bnP, PySem.W.keyToks, PySem.W.keyToksAll] at h
  obtain ⟨h1, h2⟩ := h
  subst h1
  rw [str_ext (x := a2) (y := b2) (by simpa using h2)]
theorem row_sort_unique {l l' : List SP.Row} (hp : l'.Perm l) (hs : l'.Pairwise fun a b => rowLe a b = true) : l' = l.mergeSort rowLe := sort_unique (data_trans rowP) (data_total rowP) (data_anti rowP row_toks) hp hs
theorem bn_sort_unique {l l' : List Bn} (hp : l'.Perm l) (hs : l'.Pairwise fun a b => bnLe a b = true) : l' = l.mergeSort bnLe := sort_unique (data_trans bnP) (data_total bnP) (data_anti bnP bn_toks) hp hs
theorem bn_sort_congr {l l' : List Bn} (hp : l'.Perm l) : l'.mergeSort bnLe = l.mergeSort bnLe := bn_sort_unique ((List.mergeSort_perm _ _).trans hp) (List.pairwise_mergeSort (data_trans bnP) (data_total bnP) _)
/-- the first row of each episode -/
def firsts : List Ep → List SP.Row → List SP.Row
  | _, [] => []
  | seen, r :: rs => if r.2.2 ∈ seen then firsts seen rs else r :: firsts (r.2.2 :: seen) rs
theorem firsts_congr : ∀ (rs : List SP.Row) (s s' : List Ep), (∀ e, e ∈ s ↔ e ∈ s') → firsts s rs = firsts s' rs
  | [], _, _, _ => rfl
  | r :: rs, s, s', h => by
    unfold firsts
    by_cases z : r.2.2 ∈ s
    · rw [if_pos z, if_pos ((h _).mp z)]
      exact firsts_congr rs s s' h
    · rw [if_neg z, if_neg fun y => z ((h _).mpr y)]
      congr 1
      refine firsts_congr rs _ _ fun e => ?_
      rw [List.mem_cons, List.mem_cons, h e]
theorem firsts_cons (s : List Ep) (r : SP.Row) (rs : List SP.Row) : firsts s (r :: rs) = if r.2.2 ∈ s then firsts s rs else r :: firsts (r.2.2 :: s) rs := rfl
theorem dedup_firsts : ∀ (rs : List SP.Row) (acc : List Ep), rs.foldl (fun acc r => if r.2.2 ∈ acc then acc else acc ++ [r.2.2]) acc = acc ++ (firsts acc rs).map (·.2.2)
  | [], acc => by simp [firsts]
  | r :: rs, acc => by
    rw [List.foldl_cons, dedup_firsts rs, firsts_cons]
    by_cases z : r.2.2 ∈ acc
    · rw [if_pos z, if_pos z]
    · rw [if_neg z, if_neg z, List.map_cons, List.append_assoc, firsts_congr rs (acc ++ [r.2.2]) (r.2.2 :: acc) fun e => by simp [or_comm]]
      rfl
theorem firsts_sub : ∀ (rs : List SP.Row) (s : List Ep), (firsts s rs).Sublist rs
  | [], _ => .slnil
  | r :: rs, s => by
    unfold firsts
    split
    · exact (firsts_sub rs s).cons _
    · exact (firsts_sub rs _).cons_cons _
theorem firsts_out : ∀ (rs : List SP.Row) (s : List Ep) (r : SP.Row), r ∈ firsts s rs → r.2.2 ∉ s
  | [], _, _, h => by cases h
  | a :: rs, s, r, h => by
    unfold firsts at h
    split at h
    · exact firsts_out rs s r h
    · rcases List.mem_cons.mp h with rfl | h
      · assumption
      · exact fun z => firsts_out rs _ r h (List.mem_cons_of_mem _ z)
theorem firsts_nd : ∀ (rs : List SP.Row) (s : List Ep), ((firsts s rs).map (·.2.2)).Nodup
  | [], _ => by simp [firsts]
  | a :: rs, s => by
    unfold firsts
    split
    · exact firsts_nd rs s
    · rw [List.map_cons, List.nodup_cons]
      refine ⟨fun z => ?_, firsts_nd rs _⟩
      obtain ⟨r, hr, e⟩ := List.mem_map.mp z
      exact firsts_out rs _ r hr (by rw [e]; exact List.mem_cons_self)
/-- in sorted rows, the first of an episode is the least -/
theorem firsts_least : ∀ (rs : List SP.Row) (s : List Ep), (rs.Pairwise fun a b => rowLe a b = true) → ∀ r ∈ firsts s rs, ∀ y ∈ rs, y.2.2 = r.2.2 → rowLe r y = true
  | [], _, _, _, h, _, _, _ => by cases h
  | a :: rs, s, hp, r, h, y, hy, e => by
    rw [List.pairwise_cons] at hp
    unfold firsts at h
    split at h
    · rename_i hs
      rcases List.mem_cons.mp hy with rfl | hy
      · exact absurd (e ▸ hs) (firsts_out rs s r h)
      · exact firsts_least rs s hp.2 r h y hy e
    · rcases List.mem_cons.mp h with rfl | h
      · rcases List.mem_cons.mp hy with rfl | hy
        · exact (data_tot rowP).refl _
        · exact hp.1 y hy
      · rcases List.mem_cons.mp hy with rfl | hy
        · exact absurd (e ▸ List.mem_cons_self) (firsts_out rs _ r h)
        · exact firsts_least rs _ hp.2 r h y hy e
theorem firsts_has : ∀ (rs : List SP.Row) (s : List Ep), ∀ y ∈ rs, y.2.2 ∉ s → ∃ r ∈ firsts s rs, r.2.2 = y.2.2
  | [], _, _, h, _ => by cases h
  | a :: rs, s, y, h, hn => by
    unfold firsts
    rcases List.mem_cons.mp h with rfl | h
    · rw [if_neg hn]
      exact ⟨_, List.mem_cons_self, rfl⟩
    · split
      · exact firsts_has rs s y h hn
      · by_cases z : y.2.2 = a.2.2
        · exact ⟨a, List.mem_cons_self, z.symm⟩
        · obtain ⟨r, h1, h2⟩ := firsts_has rs (a.2.2 :: s) y h (fun q => by
            rcases List.mem_cons.mp q with q | q
            · exact z q
            · exact hn q)
          exact ⟨r, List.mem_cons_of_mem _ h1, h2⟩
/-- rows of each episode once, the least ones, sorted: the wishes -/
theorem wishes_rows {b : Bk} {l : Lst} {L : List SP.Row} (hn : (L.map (·.2.2)).Nodup) (hm : ∀ r, r ∈ L ↔ r ∈ sortedRows b l ∧ ∀ y ∈ sortedRows b l, y.2.2 = r.2.2 → rowLe r y = true) : (L.mergeSort rowLe).map (·.2.2) = wishes b l := by
  have hs : (sortedRows b l).Pairwise fun a b => rowLe a b = true := List.pairwise_mergeSort (data_trans rowP) (data_total rowP) _
  have hw : wishes b l = (firsts [] (sortedRows b l)).map (·.2.2) := by
    rw [← wishes_fold, dedup_firsts, List.nil_append]
  have nd1 : (firsts [] (sortedRows b l)).Nodup := (List.Pairwise.of_map (fun r : SP.Row => r.2.2) (fun a b h e => h (by rw [e])) (firsts_nd (sortedRows b l) []))
  have nd2 : L.Nodup := (List.Pairwise.of_map (fun r : SP.Row => r.2.2) (fun a b h e => h (by rw [e])) hn)
  have hp : (firsts [] (sortedRows b l)).Perm L := by
    refine (List.perm_ext_iff_of_nodup nd1 nd2).mpr fun r => ?_
    rw [hm r]
    constructor
    · intro h
      exact ⟨(firsts_sub _ _).mem h, firsts_least _ _ hs r h⟩
    · rintro ⟨h1, h2⟩
      obtain ⟨r', h3, h4⟩ := firsts_has _ [] r h1 (by simp)
      have h5 := firsts_least _ _ hs r' h3 r h1 h4.symm
      have h6 := h2 r' ((firsts_sub _ _).mem h3) h4
      have := data_anti rowP row_toks r r' h6 h5
      rw [this]
      exact h3
  rw [hw, ← row_sort_unique hp (hs.sublist (firsts_sub _ _))]
def rulP (r : Rul) : PyData := .tuple [.str r.show_, .int r.first, .int r.last, .int r.priority, .int r.before, .int r.after]
theorem ruls_of : ∀ rs : List Rul, PyOfs (rs.map rulT) (rs.map rulP)
  | [] => .nil
  | r :: rs => .cons (.tup (.cons (.str _) (.cons (.int _) (.cons (.int _) (.cons (.int _) (.cons (.int _) (.cons (.int _) .nil))))))) (ruls_of rs)
theorem ruls_lay (rs : List Rul) (h : ∀ r ∈ rs, isWord r.show_ = true) : PyData.canLayAll0 (rs.map rulP) = true := by
  induction rs with
  | nil => rfl
  | cons e es ih =>
    rw [List.map_cons]
    unfold PyData.canLayAll0
    rw [ih fun e h' => h e (List.mem_cons_of_mem _ h')]
    have hs : PyData.strOk e.show_ = true := word_ok (h e List.mem_cons_self)
    simp [rulP, PyData.canLay0, PyData.canLayAll0, hs]
theorem ruls_depth : ∀ es : List Rul, PyData.depthAll (es.map rulP) ≤ 1
  | [] => Nat.zero_le _
  | e :: es => by
    rw [List.map_cons, PyData.depthAll]
    have h1 : (rulP e).depth ≤ 1 := by simp [rulP, PyData.depth, PyData.depthAll]
    have := ruls_depth es
    omega
theorem ruls_shaped (rs : List Rul) (h : ∀ r ∈ rs, isWord r.show_ = true) : SeqAt.shaped (.list (rs.map rulP)) = true := by
  have h1 : (PyData.list (rs.map rulP)).canLay0 = true := by rw [PyData.canLay0]; exact ruls_lay rs h
  have h2 : (PyData.list (rs.map rulP)).depth ≤ 64 := by
    have := ruls_depth rs
    rw [PyData.depth]
    omega
  unfold SeqAt.shaped
  rw [h1, decide_eq_true h2]
  rfl
theorem nil_shaped : SeqAt.shaped (.list []) = true := ruls_shaped [] (fun r h => (by cases h))
theorem ruls_nil (rs : List Rul) : PyData.eqv (.list (rs.map rulP)) (.list []) = rs.isEmpty := by
  cases rs <;> simp [PyData.eqv, PyData.eqvAll]
theorem find_filter {α : Type} (q : α → Bool) (l : List α) : l.find? q = (l.filter q).head? := (List.head?_filter).symm
end SP
namespace SP
open PySem PySem.Spec PyProof.Rows L2 DD
def wi1 (b : Bk) (x : Str × Snd) : List Wi := ((ruleFor b x.2).map fun r => (⟨x.1, x.2, r⟩ : Wi)).toList
def wiAdd (b : Bk) (ws : List Wi) (x : Str × Snd) : List Wi := ws ++ wi1 b x
theorem wiAdd_none {b : Bk} {ws : List Wi} {x : Str × Snd} (h : ruleFor b x.2 = none) : wiAdd b ws x = ws := by
  unfold wiAdd wi1
  rw [h]
  exact List.append_nil _
theorem wiAdd_some {b : Bk} {ws : List Wi} {x : Str × Snd} {r : Rul} (h : ruleFor b x.2 = some r) : wiAdd b ws x = ws ++ [⟨x.1, x.2, r⟩] := by
  unfold wiAdd wi1
  rw [h]
  rfl
theorem wiAdd_fold (b : Bk) : ∀ (l : Lst) (ws : List Wi), l.foldl (wiAdd b) ws = ws ++ wished b l
  | [], ws => by simp [wished]
  | x :: l, ws => by
    rw [List.foldl_cons, wiAdd_fold b l]
    unfold wished
    rw [List.filterMap_cons]
    cases h : ruleFor b x.2 with
    | none => rw [wiAdd_none h]; rfl
    | some r => rw [wiAdd_some h, List.append_assoc]; rfl
theorem wiAdd_all (b : Bk) (l : Lst) : l.foldl (wiAdd b) [] = wished b l := by rw [wiAdd_fold, List.nil_append]
def epsOf (ws : List Wi) : List Ep := dedup (ws.map fun x => x.s.ep)
def bnsAt (ws : List Wi) (e : Ep) : List Bn := ((ws.filter fun x => decide (x.s.ep = e)).map Wi.bn).mergeSort bnLe
def groupsAt (ws : List Wi) : List (Ep × List Bn) := (epsOf ws).map fun e => (e, bnsAt ws e)
def bnsD (bs : List Bn) : Dt := .lst (bs.map bnD)
def grD (gs : List (Ep × List Bn)) : List (List Key × Sv) := gs.map fun y => (epKey y.1, .dat (bnsD y.2))
theorem epKey_inj {a b : Ep} (h : epKey a = epKey b) : a = b := by
  obtain ⟨a1, a2⟩ := a
  obtain ⟨b1, b2⟩ := b
  unfold epKey at h
  injection h with h1 h2
  injection h2 with h2 h3
  have e1 : a1 = b1 := Sum.inr.inj h1
  have e2 : a2 = b2 := Sum.inl.inj h2
  rw [e1, e2]
theorem epsOf_snoc (ws : List Wi) (x : Wi) : epsOf (ws ++ [x]) = if x.s.ep ∈ epsOf ws then epsOf ws else epsOf ws ++ [x.s.ep] := by
  unfold epsOf dedup
  rw [List.map_append, List.foldl_append]
  rfl
theorem epsOf_mem {ws : List Wi} {e : Ep} : e ∈ epsOf ws ↔ ∃ x ∈ ws, x.s.ep = e := by
  unfold epsOf dedup
  rw [dedup_mem]
  constructor
  · rintro (h | h)
    · cases h
    · obtain ⟨x, h1, h2⟩ := List.mem_map.mp h
      exact ⟨x, h1, h2⟩
  · rintro ⟨x, h1, h2⟩
    exact .inr (List.mem_map.mpr ⟨x, h1, h2⟩)
theorem epsOf_nd (ws : List Wi) : (epsOf ws).Nodup := dedup_nd _ _ (by simp)
theorem bnsAt_same {ws : List Wi} {x : Wi} {e : Ep} (h : x.s.ep ≠ e) : bnsAt (ws ++ [x]) e = bnsAt ws e := by
  unfold bnsAt
  rw [List.filter_append]
  simp [h]
theorem bnsAt_more (ws : List Wi) (x : Wi) : bnsAt (ws ++ [x]) x.s.ep = (bnsAt ws x.s.ep ++ [x.bn]).mergeSort bnLe := by
  unfold bnsAt
  rw [List.filter_append, List.map_append]
  refine (bn_sort_congr ?_).symm
  have e : ([x].filter fun y => decide (y.s.ep = x.s.ep)).map Wi.bn = [x.bn] := by simp
  rw [e]
  exact (List.mergeSort_perm _ _).append_right _
theorem bnsAt_none {ws : List Wi} {e : Ep} (h : e ∉ epsOf ws) : bnsAt ws e = [] := by
  unfold bnsAt
  have e2 : (ws.filter fun x => decide (x.s.ep = e)) = [] := by
    rw [List.filter_eq_nil_iff]
    intro x hx z
    exact h (epsOf_mem.mpr ⟨x, hx, of_decide_eq_true z⟩)
  rw [e2]
  simp
/-- what stands at an episode's key -/
theorem getD_gr (gs : List (Ep × List Bn)) (e : Ep) : getD (grD gs) (epKey e) = ((gs.find? fun y => decide (y.1 = e)).map fun y => Sv.dat (bnsD y.2)) := by
  unfold getD grD
  induction gs with
  | nil => rfl
  | cons a gs ih =>
    rw [List.map_cons, List.find?_cons, List.find?_cons]
    dsimp only
    have e1 : decide (epKey a.1 = epKey e) = decide (a.1 = e) := decide_eq_decide.mpr ⟨epKey_inj, fun z => by rw [z]⟩
    rw [e1]
    cases decide (a.1 = e) with
    | true => rfl
    | false => exact ih
theorem get_groups (ws : List Wi) (e : Ep) : (getD (grD (groupsAt ws)) (epKey e)).getD (.dat (.lst [])) = .dat (bnsD (bnsAt ws e)) := by
  rw [getD_gr]
  cases h : (groupsAt ws).find? (fun y => decide (y.1 = e)) with
  | some y =>
    have h1 := List.mem_of_find?_eq_some h
    have h2 : y.1 = e := of_decide_eq_true (List.find?_some (p := fun y : Ep × List Bn => decide (y.1 = e)) h)
    obtain ⟨e', _, rfl⟩ := List.mem_map.mp h1
    have h3 : e' = e := h2
    subst h3
    rfl
  | none =>
    have hn : e ∉ epsOf ws := fun z => by
      have := List.find?_eq_none.mp h (e, bnsAt ws e) (List.mem_map.mpr ⟨e, z, rfl⟩)
      simp at this
    rw [bnsAt_none hn]
    rfl
theorem put_groups (ws : List Wi) (x : Wi) : putD (grD (groupsAt ws)) (epKey x.s.ep) (.dat (bnsD ((bnsAt ws x.s.ep ++ [x.bn]).mergeSort bnLe))) = grD (groupsAt (ws ++ [x])) := by
  rw [← bnsAt_more]
  have keys_eq : (grD (groupsAt ws)).map (·.1) = (epsOf ws).map epKey := by unfold grD groupsAt; rw [List.map_map, List.map_map]; rfl
  unfold putD
  by_cases h : x.s.ep ∈ epsOf ws
  · rw [if_pos]
    · unfold groupsAt grD
      rw [epsOf_snoc, if_pos h, List.map_map, List.map_map, List.map_map]
      refine List.map_congr_left fun e he => ?_
      dsimp only [Function.comp]
      by_cases z : x.s.ep = e
      · subst z; rw [if_pos rfl]
      · rw [if_neg fun q => z (epKey_inj q).symm, bnsAt_same z]
    · rw [List.any_eq_true]
      have : epKey x.s.ep ∈ (grD (groupsAt ws)).map (·.1) := by rw [keys_eq]; exact List.mem_map.mpr ⟨_, h, rfl⟩
      obtain ⟨y, hy, e⟩ := List.mem_map.mp this
      exact ⟨y, hy, decide_eq_true e⟩
  · rw [if_neg]
    · unfold groupsAt grD
      rw [epsOf_snoc, if_neg h, List.map_append, List.map_append]
      congr 1
      rw [List.map_map, List.map_map]
      refine List.map_congr_left fun e he => ?_
      dsimp only [Function.comp]
      rw [bnsAt_same fun z => h (z ▸ he)]
    · intro z
      obtain ⟨y, hy, e⟩ := List.any_eq_true.mp z
      have : y.1 ∈ (grD (groupsAt ws)).map (·.1) := List.mem_map.mpr ⟨y, hy, rfl⟩
      rw [keys_eq] at this
      obtain ⟨e', he', q⟩ := List.mem_map.mp this
      exact h (epKey_inj (q.trans (of_decide_eq_true e)) ▸ he')
theorem cut13 (a b c d e f : Dt) : DD.cutD [a, b, c, d, e, f] (some 1) (some 3) = [b, c] := rfl
def groupsD0 (ws : List Wi) : Dt := .dtt ((groupsAt ws).map fun y => (epKey y.1, bnsD y.2))
end SP
namespace SP
open PySem PySem.Spec PyProof.Rows L2 DD
theorem bnsAt_is (b : Bk) (l : Lst) (e : Ep) : bnsAt (wished b l) e = bnOf b l e := rfl
theorem bnsAt_len (ws : List Wi) (e : Ep) : (bnsAt ws e).length ≤ ws.length := by
  unfold bnsAt
  rw [(List.mergeSort_perm _ _).length_eq, List.length_map]
  exact List.length_filter_le _ _
theorem epsOf_len (ws : List Wi) : (epsOf ws).length ≤ ws.length := by
  have key : ∀ (es acc : List Ep), (es.foldl (fun acc e => if e ∈ acc then acc else acc ++ [e]) acc).length ≤ acc.length + es.length := by
    intro es
    induction es with
    | nil => intro acc; simp
    | cons a es ih =>
      intro acc
      rw [List.foldl_cons]
      refine Nat.le_trans (ih _) ?_
      by_cases h : a ∈ acc
      · rw [if_pos h, List.length_cons]; omega
      · rw [if_neg h, List.length_append, List.length_cons, List.length_cons, List.length_nil]; omega
  have := key (ws.map fun x => x.s.ep) []
  unfold epsOf dedup
  simp at this
  exact this
theorem groups_len (ws : List Wi) : (grD (groupsAt ws)).length ≤ ws.length := by
  unfold grD groupsAt
  rw [List.length_map, List.length_map]
  exact epsOf_len ws
theorem wiAdd_len {b : Bk} {pre : Lst} : (pre.foldl (wiAdd b) []).length ≤ pre.length := by
  rw [wiAdd_all]
  exact List.length_filterMap_le _ _
theorem allK_gr : ∀ gs : List (Ep × List Bn), AllK (grD gs) (gs.map fun y => (epKey y.1, bnsD y.2))
  | [] => .nil
  | a :: as => .cons (allK_gr as)
def prioOf (b : Bk) (e : Ep) : Int := match ruleOf b e.1 e.2 with
  | some r => r.priority
  | none => 0
def minRow (b : Bk) (l : Lst) (e : Ep) : SP.Row := (0 - prioOf b e, ((bnOf b l e).head?.map (·.1)).getD 0, e)
def rowsL (b : Bk) (l : Lst) : List SP.Row := (epsOf (wished b l)).map (minRow b l)
theorem row_le (p b0 b1 : Int) (e : Ep) (h : b0 ≤ b1) : rowLe (p, b0, e) (p, b1, e) = true := by
  unfold rowLe
  rw [PySem.W.dataLe_eq]
  dsimp only [cond]
  have : PySem.W.dataLt (rowP (p, b1, e)) (rowP (p, b0, e)) = false := by
    unfold rowP
    rw [PySem.W.dataLt_tuple, PySem.W.dataLt_cons (by simp [PySem.W.alike]), PySem.W.dataLt_cons (by simp [PySem.W.alike]), PySem.W.dataLt_cons (by simp [epP, PySem.W.alike, PySem.W.alikeAll]), PySem.W.dataLt_int]
    have e1 : PyData.eqv (.int p) (.int p) = true := by simp [PyData.eqv]
    have e2 : PyData.eqv (epP e) (epP e) = true := by rw [ep_eqv]; exact decide_eq_true rfl
    dsimp only
    rw [if_pos e1, if_pos e2]
    have e3 : PyProof.Rows.lexLt PyProof.Rows.itemOrd (PySem.W.keyToksAll []) (PySem.W.keyToksAll []) = false := PyProof.Rows.lex_irrefl _
    rw [e3]
    split
    · rfl
    · exact decide_eq_false (by omega)
  rw [this]
  rfl
theorem bn_le {x y : Bn} (h : bnLe x y = true) : x.1 ≤ y.1 := by
  unfold bnLe at h
  rw [PySem.W.dataLe_eq] at h
  dsimp only [cond] at h
  have h1 : PySem.W.dataLt (bnP y) (bnP x) = false := by simpa using h
  unfold bnP at h1
  rw [PySem.W.dataLt_pair (by simp [PySem.W.alike]) (by simp [PySem.W.alike]), PySem.W.dataLt_int] at h1
  by_cases e : x.1 = y.1
  · omega
  · have e1 : ¬ PyData.eqv (.int y.1) (.int x.1) = true := by simp [PyData.eqv]; omega
    rw [if_neg e1] at h1
    have := of_decide_eq_false h1
    omega
theorem prio_is {b : Bk} {l : Lst} {x : Wi} (h : x ∈ wished b l) : prioOf b x.s.ep = x.r.priority := by
  have h2 := (wished_mem.mp h).2
  unfold ruleFor at h2
  unfold prioOf Snd.ep
  dsimp only
  rw [h2]
theorem head_bn {b : Bk} {l : Lst} {e : Ep} (h : e ∈ epsOf (wished b l)) : ∃ x0 ∈ wished b l, x0.s.ep = e ∧ (∃ rest, bnOf b l e = x0.bn :: rest) ∧ (∀ x ∈ wished b l, x.s.ep = e → x0.s.begin_ ≤ x.s.begin_) ∧ minRow b l e = x0.row := by
  obtain ⟨x, hx, he⟩ := epsOf_mem.mp h
  have hs : (bnOf b l e).Pairwise fun a c => bnLe a c = true := List.pairwise_mergeSort (data_trans bnP) (data_total bnP) _
  cases hb : bnOf b l e with
  | nil =>
    have := (bn_perm b l e).length_eq
    rw [hb] at this
    exact absurd (List.eq_nil_of_length_eq_zero this.symm) (bn_pos hx he)
  | cons y rest =>
    have hy : y ∈ bnRaw b l e := (bn_perm b l e).mem_iff.mp (by rw [hb]; exact List.mem_cons_self)
    obtain ⟨x0, h0, rfl⟩ := List.mem_map.mp hy
    obtain ⟨h1, h2⟩ := List.mem_filter.mp h0
    have h3 : x0.s.ep = e := of_decide_eq_true h2
    refine ⟨x0, h1, h3, ⟨rest, rfl⟩, fun z hz hze => ?_, ?_⟩
    · have hm : z.bn ∈ bnOf b l e := (bn_perm b l e).mem_iff.mpr (List.mem_map.mpr ⟨z, List.mem_filter.mpr ⟨hz, decide_eq_true hze⟩, rfl⟩)
      rw [hb] at hm hs
      rcases List.mem_cons.mp hm with q | q
      · have : x0.s.begin_ = z.s.begin_ := congrArg (·.1) q.symm
        omega
      · exact bn_le ((List.pairwise_cons.mp hs).1 _ q)
    · unfold minRow
      rw [hb, ← h3, prio_is h1]
      unfold Wi.row
      rw [Int.zero_sub]
      rfl
theorem rows_wish (b : Bk) (l : Lst) : ((rowsL b l).mergeSort rowLe).map (·.2.2) = wishes b l := by
  have hmem : ∀ {x : Wi}, x ∈ wished b l → x.row ∈ sortedRows b l := fun hx => (rows_perm b l).mem_iff.mpr (List.mem_map.mpr ⟨_, hx, rfl⟩)
  have hle : ∀ {x0 x : Wi}, x0 ∈ wished b l → x ∈ wished b l → x.s.ep = x0.s.ep → x0.s.begin_ ≤ x.s.begin_ → rowLe x0.row x.row = true := fun {x0 x} h0 h he hb => by
    have p0 := prio_is h0
    have p1 := prio_is h
    rw [he] at p1
    unfold Wi.row
    rw [← p0, ← p1, he]
    exact row_le _ _ _ _ hb
  refine wishes_rows ?_ fun r => ?_
  · have e : (rowsL b l).map (·.2.2) = epsOf (wished b l) := by
      unfold rowsL
      rw [List.map_map]
      exact List.map_id _
    rw [e]
    exact epsOf_nd _
  constructor
  · intro h
    obtain ⟨e, he, rfl⟩ := List.mem_map.mp h
    obtain ⟨x0, h0, h1, _, h2, h3⟩ := head_bn he
    rw [h3]
    refine ⟨hmem h0, fun y hy hye => ?_⟩
    obtain ⟨x, hx, rfl⟩ := List.mem_map.mp ((rows_perm b l).mem_iff.mp hy)
    exact hle h0 hx hye (h2 x hx (Eq.trans hye h1))
  · rintro ⟨h1, h2⟩
    obtain ⟨x, hx, rfl⟩ := List.mem_map.mp ((rows_perm b l).mem_iff.mp h1)
    have he : x.s.ep ∈ epsOf (wished b l) := epsOf_mem.mpr ⟨x, hx, rfl⟩
    obtain ⟨x0, h0, h3, _, h4, h5⟩ := head_bn he
    have a1 := hle h0 hx h3.symm (h4 x hx rfl)
    have a2 := h2 x0.row (hmem h0) h3
    have := data_anti rowP row_toks x.row x0.row a2 a1
    rw [this, ← h5]
    exact List.mem_map.mpr ⟨_, he, rfl⟩
end SP
namespace SP
open PySem PySem.Spec PyProof.Rows L2 DD
theorem get_known {ws : List Wi} {e : Ep} (h : e ∈ epsOf ws) : getD (((groupsAt ws).map fun y => (epKey y.1, bnsD y.2)).map fun kv => (kv.1, Sv.dat kv.2)) (epKey e) = some (.dat (bnsD (bnsAt ws e))) := by
  rw [List.map_map]
  show getD (grD (groupsAt ws)) (epKey e) = _
  rw [getD_gr]
  cases h2 : (groupsAt ws).find? (fun y => decide (y.1 = e)) with
  | some y =>
    have h1 := List.mem_of_find?_eq_some h2
    have h3 : y.1 = e := of_decide_eq_true (List.find?_some (p := fun y : Ep × List Bn => decide (y.1 = e)) h2)
    obtain ⟨e', _, rfl⟩ := List.mem_map.mp h1
    have h4 : e' = e := h3
    subst h4
    rfl
  | none =>
    have := List.find?_eq_none.mp h2 (e, bnsAt ws e) (List.mem_map.mpr ⟨e, h, rfl⟩)
    simp at this
theorem rowsL_mem {b : Bk} {l : Lst} {r : SP.Row} (h : r ∈ rowsL b l) : r.2.2 ∈ epsOf (wished b l) := by
  obtain ⟨e, he, rfl⟩ := List.mem_map.mp h
  exact he
theorem rowsL_len {b : Bk} {l : Lst} (hl : LOk l) : (rowsL b l).length ≤ 10 := by
  unfold rowsL
  rw [List.length_map]
  exact Nat.le_trans (epsOf_len _) (wished_len hl)
theorem pairs_ep (es : List Ep) (f : Ep → Dt) : pairsT (es.map fun e => .tup [epD e, f e]) = some (es.map fun e => (epKey e, f e)) := by
  induction es with
  | nil => rfl
  | cons e es ih =>
    rw [List.map_cons, List.map_cons, pairsT, ih]
    rfl
theorem putDs_nd {κ β : Type} [DecidableEq κ] (kvs : List (κ × β)) (h : (kvs.map (·.1)).Nodup) : putDs kvs = kvs := by
  have key : ∀ (ys acc : List (κ × β)), ((acc ++ ys).map (·.1)).Nodup → ys.foldl (fun acc kv => putG acc kv.1 kv.2) acc = acc ++ ys := by
    intro ys
    induction ys with
    | nil => intro acc _; simp
    | cons y ys ih =>
      intro acc hn
      have hy : ¬ (acc.any fun kv => decide (kv.1 = y.1)) = true := by
        intro z
        obtain ⟨a, ha, e⟩ := List.any_eq_true.mp z
        rw [List.map_append, List.map_cons] at hn
        exact (List.nodup_append.mp hn).2.2 a.1 (List.mem_map.mpr ⟨a, ha, rfl⟩) y.1 List.mem_cons_self (of_decide_eq_true e)
      rw [List.foldl_cons]
      unfold putG
      rw [if_neg hy]
      have := ih (acc ++ [(y.1, y.2)]) (by rw [List.append_assoc]; exact hn)
      unfold putG at this
      rw [this, List.append_assoc]
      rfl
  exact key kvs [] h
theorem keys_ep {es : List Ep} (h : es.Nodup) (f : Ep → Dt) : ((es.map fun e => (epKey e, f e)).map (·.1)).Nodup := by
  rw [List.map_map]
  unfold List.Nodup at *
  rw [List.pairwise_map]
  exact h.imp fun {a b} k e => k (epKey_inj e)
end SP
namespace SP
open PySem PySem.Spec PyProof.Rows L2 DD
/-- a name, its receiver -/
def tkD (x : Str × Int) : Dt := .tup [.str x.1, .int x.2]
def takenD (p : Plan) : Dt := .lst (p.map tkD)
/-- what is missed: the episode, what was taken by then -/
def missed (b : Bk) (l : Lst) (k : Nat) : List Ep → Plan → List (Ep × Plan)
  | [], _ => []
  | e :: es, p => match firstFree (windows b l) p k (sendsOf b l e) with
    | some x => missed b l k es (p ++ [x])
    | none => (e, p) :: missed b l k es p
def missD (x : Ep × Plan) : Dt := .tup [epD x.1, takenD x.2]
def ctLTaken : Ct := ctDr (fun k : Nat => [dI (k : Int)]) (fun _ _ k => k ≤ 10) fun b l k => .tup [takenD (taken b l k), .lst ((missed b l k (wishes b l) []).map missD)]
end SP
namespace SP
open PySem PySem.Spec PyProof.Rows L2 DD
theorem get_group {b : Bk} {l : Lst} {e : Ep} (h : e ∈ wishes b l) : getD (((wishes b l).map fun e => (epKey e, namesD (sendsOf b l e))).map fun kv => (kv.1, Sv.dat kv.2)) (epKey e) = some (.dat (namesD (sendsOf b l e))) := by
  have key : ∀ es : List Ep, e ∈ es → getD ((es.map fun e => (epKey e, namesD (sendsOf b l e))).map fun kv => (kv.1, Sv.dat kv.2)) (epKey e) = some (.dat (namesD (sendsOf b l e))) := by
    intro es
    induction es with
    | nil => intro h; cases h
    | cons a es ih =>
      intro h
      unfold getD
      rw [List.map_cons, List.map_cons, List.find?_cons]
      dsimp only
      by_cases z : a = e
      · subst z
        rw [decide_eq_true rfl]
        rfl
      · rw [decide_eq_false fun q => z (epKey_inj q)]
        rcases List.mem_cons.mp h with q | q
        · exact absurd q.symm z
        · exact ih q
  exact key _ h
end SP
namespace SP
open PySem PySem.Spec PyProof.Rows L2 DD
def tmStep (b : Bk) (l : Lst) (k : Nat) (s : Plan × List (Ep × Plan)) (e : Ep) : Plan × List (Ep × Plan) := match firstFree (windows b l) s.1 k (sendsOf b l e) with
  | some x => (s.1 ++ [x], s.2)
  | none => (s.1, s.2 ++ [(e, s.1)])
theorem tm_fst1 (b : Bk) (l : Lst) (k : Nat) (s : Plan × List (Ep × Plan)) (e : Ep) : (tmStep b l k s e).1 = takeStep b l k s.1 e := by
  unfold tmStep takeStep addTo
  cases firstFree (windows b l) s.1 k (sendsOf b l e) <;> rfl
theorem tm_fst0 (b : Bk) (l : Lst) (k : Nat) : ∀ (es : List Ep) (s : Plan × List (Ep × Plan)), (es.foldl (tmStep b l k) s).1 = es.foldl (takeStep b l k) s.1
  | [], s => rfl
  | e :: es, s => by rw [List.foldl_cons, List.foldl_cons, tm_fst0 b l k es, tm_fst1]
theorem tm_fst (b : Bk) (l : Lst) (k : Nat) (es : List Ep) : (es.foldl (tmStep b l k) ([], [])).1 = es.foldl (takeStep b l k) [] := tm_fst0 b l k es _
theorem tm_snd0 (b : Bk) (l : Lst) (k : Nat) : ∀ (es : List Ep) (s : Plan × List (Ep × Plan)), (es.foldl (tmStep b l k) s).2 = s.2 ++ missed b l k es s.1
  | [], s => by simp [missed]
  | e :: es, s => by
    rw [List.foldl_cons, tm_snd0 b l k es]
    unfold tmStep
    rw [missed]
    cases h : firstFree (windows b l) s.1 k (sendsOf b l e) with
    | some x => rfl
    | none => simp
theorem tm_all (b : Bk) (l : Lst) (k : Nat) : (wishes b l).foldl (tmStep b l k) ([], []) = (taken b l k, missed b l k (wishes b l) []) := by
  refine Prod.ext (tm_fst b l k _) ?_
  rw [tm_snd0]
  rfl
theorem missed_len (b : Bk) (l : Lst) (k : Nat) : ∀ (es : List Ep) (p : Plan), (missed b l k es p).length ≤ es.length
  | [], p => Nat.le_refl _
  | e :: es, p => by
    rw [missed]
    split
    · exact Nat.le_trans (missed_len b l k es _) (Nat.le_succ _)
    · rw [List.length_cons, List.length_cons]
      exact Nat.succ_le_succ (missed_len b l k es _)
theorem tm_len (b : Bk) (l : Lst) (k : Nat) (es : List Ep) : (es.foldl (tmStep b l k) ([], [])).2.length ≤ es.length := by
  rw [tm_snd0]
  simp
  exact missed_len b l k es []
end SP
namespace DD
open PySem PySem.Spec PyProof.Rows L2
@[irreducible] def lcO (g : DG) (tt : DT) (te : DE) (vs : List Nat) (p : Addr) (xs : List Sv) (Δ : List Sv) (st1 : Store) (ok : OK) : Prop := ∀ D, D ∉ keys st1 → ∃ J : Nat → List Sv → Store → Prop, J 0 [] st1 ∧ (∀ i acc st', J i acc st' → ∃ j : Nat, st'[j]? = some (p, Ob.lst xs)) ∧
  (∀ i d acc st', xs[i]? = some d → J i acc st' → D ∉ keys st' → g d (wipeD Δ vs) ((D, .lst acc) :: st') fun Δ2 st2 => tt Δ2 st2 (fun b st3 =>
    (b = true → te Δ2 st3 (fun y st4 => ∃ acc' st5, st4 = (D, .lst acc') :: st5 ∧ acc'.length < sizeLine ∧ J (i + 1) (acc' ++ [y]) st5) fun _ _ => False) ∧ (b = false → ∃ acc' st5, st3 = (D, .lst acc') :: st5 ∧ J (i + 1) acc' st5)) fun _ _ => False) ∧
  ∀ acc st', J xs.length acc st' → ∃ ds, AllD acc ds ∧ ok (.dat (.lst ds)) st'
theorem lcO_eq (g : DG) (tt : DT) (te : DE) (vs : List Nat) (p : Addr) (xs : List Sv) (Δ : List Sv) (st1 : Store) (ok : OK) : lcO g tt te vs p xs Δ st1 ok = (∀ D, D ∉ keys st1 → ∃ J : Nat → List Sv → Store → Prop, J 0 [] st1 ∧ (∀ i acc st', J i acc st' → ∃ j : Nat, st'[j]? = some (p, Ob.lst xs)) ∧
  (∀ i d acc st', xs[i]? = some d → J i acc st' → D ∉ keys st' → g d (wipeD Δ vs) ((D, .lst acc) :: st') fun Δ2 st2 => tt Δ2 st2 (fun b st3 =>
    (b = true → te Δ2 st3 (fun y st4 => ∃ acc' st5, st4 = (D, .lst acc') :: st5 ∧ acc'.length < sizeLine ∧ J (i + 1) (acc' ++ [y]) st5) fun _ _ => False) ∧ (b = false → ∃ acc' st5, st3 = (D, .lst acc') :: st5 ∧ J (i + 1) acc' st5)) fun _ _ => False) ∧
  ∀ acc st', J xs.length acc st' → ∃ ds, AllD acc ds ∧ ok (.dat (.lst ds)) st') := by
  unfold lcO
  rfl
theorem walk_own {K : PySem.W.Frag} {a : Addr} {n : Nat} : Walk (Itl K a) n (fun H => ∃ xs, SqL K H a xs ∧ xs.length = n) (fun i H x H' => H' = H ∧ ∀ xs, SqL K H a xs → xs[i]? = some x) :=
  ⟨fun i _ hi ⟨xs, q, e⟩ => ⟨xs, xs[i], q, by simp [e, hi]⟩, fun _ ⟨xs, q, e⟩ => ⟨xs, q, Nat.le_of_eq e⟩, fun _ _ _ _ _ _ y => ⟨y.1, y.2⟩⟩
section
variable {K : PySem.W.Frag} {W : WX} {st : Store} {I H : Hp}
theorem lcO_go {g : DG} {tt : DT} {te : DE} {vs : List Nat} {Δ : List Sv} {ok : OK} {σ : L2.St} {Q : VK} {p : Addr} {xs : List Sv} (w1 : Wd K st I H) (sl : Sl K Δ I σ) (h1 : lcO g tt te vs p xs Δ st ok) (c : Cont K st I H ok Q) :
    ∀ D, H D = none → ∃ W : Nat → Nat → Hp → Prop, (∃ m, W 0 m (upd H D (.lst []))) ∧ ∀ i m H, W i m H →
  ((Itl K p).stop i H ∧ Q (.ref D) H) ∨ ((Itl K p).go i H ∧ ∃ Nx : Hp → Prop, (∀ H', Nx H' → ∃ m', m' < m ∧ W (i + 1) m' H') ∧ ∀ x H', (Itl K p).yld i H x H' → lowGw K vs g x (wipe σ vs) H' fun σ2 H2 => wipe σ2 vs = wipe σ vs ∧ lowT K tt W0 σ2 H2 fun b H3 =>
    if b = true then low K te W0 σ2 H3 fun y H4 => ∃ acc, H4 D = some (.lst acc) ∧ acc.length < sizeLine ∧ Nx (upd H4 D (.lst (acc ++ [y]))) else Nx H3) := by
  intro D hD
  obtain ⟨np, w2, s2⟩ := new_own (o := .lst []) (ob := .lst []) w1 hD (.lst .nil)
  rw [lcO_eq] at h1
  obtain ⟨Jv, j0, jp, jt, je⟩ := h1 D np
  have at_p : ∀ {i acc st' I' H'}, Jv i acc st' → Wd K ((D, .lst acc) :: st') I' H' → ∃ us, SqL K H' p us ∧ IsSs K I' xs us := fun {i acc st' I' H'} hj w' => by
    obtain ⟨j, hjj⟩ := jp i acc st' hj
    obtain ⟨o, ho, io⟩ := own_at (j := j + 1) w' hjj
    cases io with
    | lst hs => exact ⟨_, .inl (.inl ho), hs⟩
  refine lc_it (walk_own (n := xs.length)) (fun i H' => ∃ acc st' I', Jv i acc st' ∧ Wd K ((D, .lst acc) :: st') I' H' ∧ Stp st I H ((D, .lst acc) :: st') I' H') ⟨[], st, I, j0, w2, s2⟩ (fun i H' _ ⟨acc, st', I', hj, w', s'⟩ => ?_) ?_ ?_
  · obtain ⟨us, q, hs⟩ := at_p hj w'
    exact ⟨us, q, (paired_len hs).symm⟩
  · rintro i x H' H3 hi ⟨acc, st', I', hj, w', s'⟩ ⟨e3, y⟩
    subst e3
    obtain ⟨us, q, hs⟩ := at_p hj w'
    obtain ⟨d, hd, ix⟩ := paired_back hs (y us q)
    have nd : D ∉ keys st' := (List.nodup_cons.mp w'.nd).1
    refine ⟨d, _, _, I', _, w', sl_wipe (sl.mono s'.ii) vs, ix, jt i d acc st' hd hj nd, fun Δ4 st4 σ4 I4 H4 h4 w4 s4 l4 e4 => ?_⟩
    have s14 := s'.trans s4
    refine ⟨by rw [e4, wipe_wipe], ?_⟩
    refine lowT_go w4 l4 h4 (fun b st5 I5 H5 h5 w5 s5 => ?_) (fun _ _ _ _ _ _ z => z.elim)
    have s15 := s14.trans s5
    cases b with
    | true =>
      refine iteT (low_go w5 (l4.mono s5.ii) (h5.1 rfl) (fun z st6 u I6 H6 h6 w6 s6 i6 => ?_) (fun _ _ _ _ _ _ z => z.elim))
      obtain ⟨acc', st7, rfl, hl, hj'⟩ := h6
      obtain ⟨_, o, ho, io⟩ := w6.own D _ List.mem_cons_self
      cases io with
      | @lst _ ws hs =>
        obtain ⟨w7, s7⟩ := set_own (j := 0) (o' := .lst (ws ++ [u])) (ob' := .lst (acc' ++ [z])) w6 rfl (.lst (paired_app hs (.cons i6 .nil)))
        exact ⟨ws, ho, by rw [← paired_len hs]; exact hl, acc' ++ [z], st7, I6, hj', w7, (s15.trans s6).trans s7⟩
    | false =>
      refine iteF ?_
      obtain ⟨acc', st7, rfl, hj'⟩ := h5.2 rfl
      exact ⟨acc', st7, I5, hj', w5, s15⟩
  · rintro H' ⟨acc, st', I', hj, w', s'⟩
    obtain ⟨ds, ha, hok⟩ := je _ _ hj
    obtain ⟨_, o, ho, io⟩ := w'.own D _ List.mem_cons_self
    cases io with
    | lst hs =>
      obtain ⟨w9, s9, e9⟩ := pub_head w' ho s'
      exact c _ _ _ _ _ hok w9 s9 (.dat (.lst upd_same ((isDs_of ha hs).mono e9)))
def dLcO (te : DE) (g : DG) (tt : DT) (el : DE) (vs : List Nat) : DE := fun Δ st ok ex => te Δ st (fun x st1 => match x with
  | .own p => ∃ (j : Nat) (xs : List Sv), st1[j]? = some (p, Ob.lst xs) ∧ lcO g tt el vs p xs Δ st1 ok
  | _ => False) ex
theorem low_lcO {te el : DE} {g : DG} {tt : DT} {vs : List Nat} : ∀ σ H Q, low K (dLcO te g tt el vs) W σ H Q → tLc (iList K (low K te W)) (lowGw K vs g) (lowT K tt W0) (low K el W0) vs σ H Q := by
  rintro σ H Q ⟨Δ, st, I, ok, ex, wd, sl, h, c, cx⟩
  refine low_go wd sl h (fun x st1 v I1 H1 h1 w1 s1 i1 => ?_) cx
  cases i1 with
  | dat hd => exact h1.elim
  | own p =>
    obtain ⟨j, xs, hj, h1⟩ := h1
    obtain ⟨o, ho, io⟩ := own_at w1 hj
    cases io with
    | lst hs => exact ⟨p, rfl, ⟨_, .inl (.inl ho)⟩, lcO_go w1 (sl.mono s1.ii) h1 (c.go s1)⟩
end
theorem dlcO {X : Cx} {W : WX} {elt tg iter : Expr} {ifs : List Expr} {scope : Scope} {pos : Pos} (own : List (Str × Nat)) {ti te : DE} {g : DG} {tt : DT} (hN : X.N.Nodup) (hi : PEd X W iter ti) (ok : BlkOk X.N X.env.scope scope own)
    (hg : ∀ (s : Shared) (H : Hp) (C : Addr) (cl : List (Str × Addr)) (fp : List Addr), PGw (X.blk s H scope (compEnvC scope cl C X.env) fp) (own.map (·.2)) tg g) (ht : ∀ (s : Shared) (H : Hp) (C : Addr) (cl : List (Str × Addr)) (fp : List Addr), PTsd (X.blk s H scope (compEnvC scope cl C X.env) fp) ifs tt)
    (he : ∀ (s : Shared) (H : Hp) (C : Addr) (cl : List (Str × Addr)) (fp : List Addr), PEd (X.blk s H scope (compEnvC scope cl C X.env) fp) W0 elt te) (hc : X.calm = true := by rfl) (hs : ∀ x, foldedSetIterable iter X.env x = pure x := by intro _; rfl) :
    PEd X W (.ListComp elt [⟨tg, iter, ifs, 0⟩] scope pos) (dLcO ti g tt te (own.map (·.2))) := PE.imp (pe_lc hc hN (pi_list hi) ok hg ht he hs) low_lcO
/-- what is made, the store as it was -/
theorem lcO_pure {α : Type} {g : DG} {tt : DT} {te : DE} {vs : List Nat} {p : Addr} {xs : List Sv} {Δ : List Sv} {st : Store} {ok : OK} (as : List α) (e : α → Dt) (f : α → Option Dt) (hx : xs = as.map fun a => .dat (e a)) {j : Nat} (hp : st[j]? = some (p, Ob.lst xs))
    (hb : ∀ (i : Nat) a D acc, as[i]? = some a → D ∉ keys st → LcJ as f st i acc st → g (.dat (e a)) (wipeD Δ vs) ((D, .lst acc) :: st) fun Δ2 st2 => tt Δ2 st2 (fun b st3 =>
      (b = true → te Δ2 st3 (fun y st4 => ∃ acc' st5, st4 = (D, .lst acc') :: st5 ∧ acc'.length < sizeLine ∧ LcJ as f st (i + 1) (acc' ++ [y]) st5) fun _ _ => False) ∧ (b = false → ∃ acc' st5, st3 = (D, .lst acc') :: st5 ∧ LcJ as f st (i + 1) acc' st5)) fun _ _ => False)
    (hk : ok (.dat (.lst (as.filterMap f))) st) : lcO g tt te vs p xs Δ st ok := by
  subst hx
  rw [lcO_eq]
  intro D hD
  refine ⟨LcJ as f st, ⟨rfl, by simp⟩, ?_, ?_, ?_⟩
  · rintro i acc st' J
    obtain rfl := J.st
    exact ⟨j, hp⟩
  · rintro i d acc st' hd J hD'
    obtain rfl := J.st
    rw [List.getElem?_map] at hd
    cases ea : as[i]? with
    | none => rw [ea] at hd; cases hd
    | some a =>
      rw [ea] at hd
      cases hd
      exact hb i a D acc ea hD' J
  · rintro acc st' J
    obtain rfl := J.st
    have e := J.acc
    rw [List.length_map, List.take_length] at e
    subst e
    exact ⟨_, .map _, hk⟩
end DD
namespace SP
open PySem PySem.Spec PyProof.Rows L2 DD
theorem bools_of : ∀ bs : List Bool, PyOfs (bs.map Dt.bl) (bs.map PyData.bool)
  | [] => .nil
  | b :: bs => .cons (.bl b) (bools_of bs)
theorem bools_lay : ∀ bs : List Bool, PyData.canLayAll0 (bs.map PyData.bool) = true
  | [] => rfl
  | b :: bs => by
    rw [List.map_cons]
    unfold PyData.canLayAll0
    rw [bools_lay bs]
    simp [PyData.canLay0]
theorem bools_any : ∀ bs : List Bool, ((bs.map PyData.bool).any fun z => PyData.eqv z (.bool true)) = bs.any id
  | [] => rfl
  | b :: bs => by
    rw [List.map_cons, List.any_cons, bools_any bs, List.any_cons]
    cases b <;> simp [PyData.eqv]
theorem true_shaped : SeqAt.shaped (.bool true) = true := by
  have h1 : (PyData.bool true).canLay0 = true := by simp [PyData.canLay0]
  have h2 : (PyData.bool true).depth ≤ 64 := by simp [PyData.depth]
  unfold SeqAt.shaped
  rw [h1, decide_eq_true h2]
  rfl
def isFree (ws : List (Str × Win)) (p : Plan) (n : Str) (r : Nat) : Bool := !(((p.filter fun y => decide (y.2 = (r : Int))).map fun y => overlap (winOf ws y.1) (winOf ws n)).any id)
def freesOf (ws : List (Str × Win)) (p : Plan) (k : Nat) (n : Str) : List (Str × Int) := ((List.range k).filter (isFree ws p n)).map fun r : Nat => (n, (r : Int))
def freesAll (ws : List (Str × Win)) (p : Plan) (k : Nat) (ns : List Str) : List (Str × Int) := ns.flatMap (freesOf ws p k)
theorem free_is {ws : List (Str × Win)} {p : Plan} (nd : (p.map (·.1)).Nodup) (n : Str) (r : Nat) : isFree ws p n r = (onRec ws p (r : Int) n).isEmpty := by
  rw [Bool.eq_iff_iff]
  unfold isFree onRec onRecW
  rw [Bool.not_eq_true', List.isEmpty_iff, List.filter_eq_nil_iff]
  rw [Bool.eq_false_iff, Ne, List.any_eq_true]
  constructor
  · intro h o ho z
    obtain ⟨h1, h2⟩ := List.mem_filter.mp ho
    have h3 := look_some (of_decide_eq_true h2)
    exact h ⟨_, List.mem_map.mpr ⟨(o, (r : Int)), List.mem_filter.mpr ⟨h3, decide_eq_true rfl⟩, rfl⟩, z⟩
  · rintro h ⟨c, hc, hid⟩
    obtain ⟨y, hy, rfl⟩ := List.mem_map.mp hc
    obtain ⟨h1, h2⟩ := List.mem_filter.mp hy
    have h3 := look_mem nd h1
    have h4 : y.2 = (r : Int) := of_decide_eq_true h2
    rw [h4] at h3
    exact h y.1 (List.mem_filter.mpr ⟨(sortN_perm _).mem_iff.mpr (List.mem_map.mpr ⟨y, h1, rfl⟩), decide_eq_true h3⟩) hid
theorem head_filter {α β : Type} (q : α → Bool) (f : α → β) (l : List α) : ((l.filter q).map f).head? = (l.find? q).map f := by
  rw [List.head?_map, List.head?_filter]
theorem frees_head {ws : List (Str × Win)} {p : Plan} (nd : (p.map (·.1)).Nodup) (k : Nat) : ∀ ns : List Str, (freesAll ws p k ns).head? = firstFree ws p k ns
  | [] => rfl
  | n :: ns => by
    unfold freesAll firstFree
    rw [List.flatMap_cons, List.head?_append]
    have e : (freesOf ws p k n).head? = (freeAt ws p k n).map fun r : Nat => (n, (r : Int)) := by
      unfold freesOf freeAt
      rw [head_filter]
      congr 1
      congr 1
      funext r
      exact free_is nd n r
    rw [e]
    cases freeAt ws p k n with
    | some r => rfl
    | none =>
      have := frees_head (ws := ws) nd k ns
      unfold freesAll at this
      rw [this]
      rfl
theorem frees_len (ws : List (Str × Win)) (p : Plan) (k : Nat) (n : Str) : (freesOf ws p k n).length ≤ k := by
  unfold freesOf
  rw [List.length_map]
  exact Nat.le_trans (List.length_filter_le _ _) (by rw [List.length_range]; exact Nat.le_refl _)
theorem flat_len (ws : List (Str × Win)) (p : Plan) (k : Nat) (ns : List Str) (hk : k ≤ 10) : (ns.flatMap (freesOf ws p k)).length ≤ 10 * ns.length := by
  induction ns with
  | nil => simp
  | cons n ns ih =>
    rw [List.flatMap_cons, List.length_append, List.length_cons]
    have := frees_len ws p k n
    omega
theorem fold_flat {α β : Type} (f : α → List β) (as : List α) (acc : List β) : as.foldl (fun s a => s ++ f a) acc = acc ++ as.flatMap f := by
  induction as generalizing acc with
  | nil => simp
  | cons a as ih => rw [List.foldl_cons, ih, List.flatMap_cons, List.append_assoc]
def tkP (x : Str × Int) : PyData := .tuple [.str x.1, .int x.2]
theorem tks_of : ∀ rs : Plan, PyOfs (rs.map tkD) (rs.map tkP)
  | [] => .nil
  | r :: rs => .cons (.tup (.cons (.str _) (.cons (.int _) .nil))) (tks_of rs)
theorem tks_shaped (rs : Plan) (h : ∀ r ∈ rs, isWord r.1 = true) : SeqAt.shaped (.list (rs.map tkP)) = true := eps_shaped rs h
theorem tks_nil (rs : Plan) : PyData.eqv (.list (rs.map tkP)) (.list []) = rs.isEmpty := by
  cases rs <;> simp [PyData.eqv, PyData.eqvAll]
theorem frees_word {b : Bk} {l : Lst} (hl : LOk l) {p : Plan} {k : Nat} {e : Ep} {x : Str × Int} (h : x ∈ freesAll (windows b l) p k (sendsOf b l e)) : isWord x.1 = true := by
  obtain ⟨n, hn, hx⟩ := List.mem_flatMap.mp h
  obtain ⟨r, _, rfl⟩ := List.mem_map.mp hx
  obtain ⟨w, hw, e1, _⟩ := sends_mem.mp hn
  dsimp only
  rw [← e1]
  exact (hl.ok _ (wished_mem.mp hw).1).1
end SP
namespace SP
open PySem PySem.Spec PyProof.Rows L2 DD
/-- names are plain data -/
theorem names_pl {n : Nat} (ns : List Str) (h : ns.length ≤ sizeLine) : Pl (n + 2) (namesD ns) := by
  refine .lst (fun d hd => ?_) (by rw [List.length_map]; exact h)
  obtain ⟨z, _, rfl⟩ := List.mem_map.mp hd
  exact .str n z
theorem count_fold {α : Type} (l : List α) (c : Nat) : l.foldl (fun s _ => s + 1) c = c + l.length := by
  induction l generalizing c with
  | nil => rfl
  | cons a l ih => rw [List.foldl_cons, ih, List.length_cons]; omega
theorem one_word : isWord "one" = true := by decide +kernel
end SP
namespace SP
open PySem PySem.Spec PyProof.Rows L2 DD
def planEps (l : Lst) (p : Plan) : List Ep := p.map fun x => epAt l x.1
theorem first_ep {b : Bk} {l : Lst} (hl : LOk l) {p : Plan} {k : Nat} {e : Ep} {x : Str × Int} (h : firstFree (windows b l) p k (sendsOf b l e) = some x) : epAt l x.1 = e := by
  obtain ⟨h1, _⟩ := first_mem h
  obtain ⟨w, hw, e1, e2⟩ := sends_mem.mp h1
  unfold epAt
  rw [← e1, hl.get (x := (w.n, w.s)) (wished_mem.mp hw).1]
  exact e2
end SP
namespace SP
open PySem PySem.Spec PyProof.Rows L2 DD
theorem own_iff {b : Bk} {l : Lst} (hl : LOk l) {k : Nat} {x : Str × Int} : x ∈ ownPlan b l k ↔ x ∈ taken b l k := by
  refine ⟨own_mem hl, fun h => ?_⟩
  unfold ownPlan asc
  refine List.mem_map.mpr ⟨x.1, (sortN_perm _).mem_iff.mpr (List.mem_map.mpr ⟨x, h, rfl⟩), ?_⟩
  rw [look_mem (taken_inv hl k).nd h]
  rfl
end SP
namespace SP
open PySem PySem.Spec PyProof.Rows L2 DD
end SP
namespace SP
open PySem PySem.Spec PyProof.Rows L2 DD
end SP
namespace SP
open PySem PySem.Spec PyProof.Rows L2 DD
def sevenN : List Str := ["ant", "bee", "cat", "dog", "elk", "fox", "gnu"]
def SmallS (x : Str × Snd) : Prop := x.1 ∈ sevenN ∧ x.2.show_ ≠ "zoo"
theorem seven_word : ∀ z ∈ sevenN, isWord z = true := by decide +kernel
theorem seven_sorted : sevenN.Pairwise fun a b => a.cps.toList < b.cps.toList := by decide +kernel
def threeW : List Str := ["news", "quiz", "show"]
theorem three_word : ∀ z ∈ threeW, isWord z = true := by decide +kernel
def twoW : List Str := ["news", "quiz"]
theorem two_word : ∀ z ∈ twoW, isWord z = true := by decide +kernel
def chanW : List Str := ["one", "two"]
theorem chan_word : ∀ z ∈ chanW, isWord z = true := by decide +kernel
theorem word_at {ws : List Str} (hw : ∀ z ∈ ws, isWord z = true) {n : Int} (h0 : 0 ≤ n) (h1 : n < ws.length) : ∃ z, isWord z = true ∧ atI ((ws.map Dt.str).map Sv.dat) n = some (.dat (.str z)) := by
  obtain ⟨x, hx, hx2⟩ := atI_of (xs := (ws.map Dt.str).map Sv.dat) h0 (by simpa using h1)
  rw [List.getElem?_map, List.getElem?_map] at hx
  cases hz : ws[n.toNat]? with
  | none => rw [hz] at hx; cases hx
  | some z =>
    rw [hz] at hx
    cases hx
    exact ⟨z, hw z (List.mem_of_getElem? hz), hx2⟩
theorem word_at2 {ws : List Str} (hw : ∀ z ∈ ws, isWord z = true) {n : Int} (h0 : 0 ≤ n) (h1 : n < ws.length) : ∃ z, isWord z = true ∧ z ∈ ws ∧ atI ((ws.map Dt.str).map Sv.dat) n = some (.dat (.str z)) := by
  obtain ⟨x, hx, hx2⟩ := atI_of (xs := (ws.map Dt.str).map Sv.dat) h0 (by simpa using h1)
  rw [List.getElem?_map, List.getElem?_map] at hx
  cases hz : ws[n.toNat]? with
  | none => rw [hz] at hx; cases hx
  | some z =>
    rw [hz] at hx
    cases hx
    exact ⟨z, hw z (List.mem_of_getElem? hz), List.mem_of_getElem? hz, hx2⟩
theorem num_at (ws : List Int) {n : Int} (h0 : 0 ≤ n) (h1 : n < ws.length) : ∃ z, z ∈ ws ∧ atI ((ws.map Dt.int).map Sv.dat) n = some (.dat (.int z)) := by
  obtain ⟨x, hx, hx2⟩ := atI_of (xs := (ws.map Dt.int).map Sv.dat) h0 (by simpa using h1)
  rw [List.getElem?_map, List.getElem?_map] at hx
  cases hz : ws[n.toNat]? with
  | none => rw [hz] at hx; cases hx
  | some z =>
    rw [hz] at hx
    cases hx
    exact ⟨z, List.mem_of_getElem? hz, hx2⟩
theorem cut_take {α : Type} (xs : List α) {n : Int} (h : 0 ≤ n) : DD.cutD xs none (some n) = xs.take n.toNat := by
  obtain ⟨k, rfl⟩ : ∃ k : Nat, n = (k : Int) := ⟨n.toNat, by omega⟩
  unfold DD.cutD
  rw [HT.sIx_none, HT.sIx_nat, List.drop_zero, Nat.sub_zero, Int.toNat_natCast, Nat.min_def]
  split
  · rfl
  · rw [List.take_of_length_le (Nat.le_refl _), List.take_of_length_le (by omega)]
/-- a comprehension that changes the store -/
def LcR (R : Nat → List Dt → Store → Prop) : Nat → List Sv → Store → Prop := fun i acc st' => ∃ ds, acc = ds.map Sv.dat ∧ R i ds st'
theorem lc_state {α : Type} {g : DG} {tt : DT} {te : DE} {vs : List Nat} {xs : List Sv} {Δ : List Sv} {st : Store} {ok : OK} (as : List α) (e : α → Dt) (R : Nat → List Dt → Store → Prop) (hx : xs = as.map fun a => .dat (e a)) (h0 : R 0 [] st)
    (hb : ∀ i a D ds st', as[i]? = some a → D ∉ keys st' → R i ds st' → g (.dat (e a)) (wipeD Δ vs) ((D, .lst (ds.map Sv.dat)) :: st') fun Δ2 st2 => tt Δ2 st2 (fun b st3 =>
      (b = true → te Δ2 st3 (fun y st4 => ∃ acc' st5, st4 = (D, Ob.lst acc') :: st5 ∧ acc'.length < sizeLine ∧ LcR R (i + 1) (acc' ++ [y]) st5) fun _ _ => False) ∧ (b = false → ∃ acc' st5, st3 = (D, Ob.lst acc') :: st5 ∧ LcR R (i + 1) acc' st5)) fun _ _ => False)
    (hk : ∀ ds st', R as.length ds st' → ok (.dat (.lst ds)) st') : lcD g tt te vs xs Δ st ok := by
  subst hx
  rw [lcD_eq]
  intro D hD
  refine ⟨LcR R, ⟨[], rfl, h0⟩, ?_, ?_⟩
  · rintro i d acc st' hd ⟨ds, rfl, hR⟩ hD'
    rw [List.getElem?_map] at hd
    cases ea : as[i]? with
    | none => rw [ea] at hd; cases hd
    | some a =>
      rw [ea] at hd
      cases hd
      exact hb i a D ds st' ea hD' hR
  · rintro acc st' ⟨ds, rfl, hR⟩
    rw [List.length_map] at hR
    exact ⟨ds, .map _, hk ds st' hR⟩
theorem lcr_yes {R : Nat → List Dt → Store → Prop} {i : Nat} {D : Addr} {ds : List Dt} {st : Store} {d : Dt} (hl : ds.length < sizeLine) (h : R (i + 1) (ds ++ [d]) st) :
    ∃ acc' st5, ((D, Ob.lst (ds.map Sv.dat)) :: st) = (D, .lst acc') :: st5 ∧ acc'.length < sizeLine ∧ LcR R (i + 1) (acc' ++ [.dat d]) st5 :=
  ⟨_, st, rfl, by rw [List.length_map]; exact hl, ds ++ [d], by rw [List.map_append]; rfl, h⟩
theorem lcr_no {R : Nat → List Dt → Store → Prop} {i : Nat} {D : Addr} {ds : List Dt} {st : Store} (h : R (i + 1) ds st) :
    ∃ acc' st5, ((D, Ob.lst (ds.map Sv.dat)) :: st) = (D, .lst acc') :: st5 ∧ LcR R (i + 1) acc' st5 := ⟨_, st, rfl, ds, rfl, h⟩
end SP
namespace SP
open PySem PySem.Spec PyProof.Rows L2 DD
theorem over_comm (a b : Win) : overlap a b = overlap b a := by
  unfold overlap
  rw [Bool.and_comm]
def txtP (n : Str) : PyData := .str n
theorem txt_of (n : Str) : PyOf (.str n) (txtP n) := .str n
theorem txts_of : ∀ ns : List Str, PyOfs (ns.map Dt.str) (ns.map txtP)
  | [] => .nil
  | n :: ns => .cons (txt_of n) (txts_of ns)
theorem txt_shaped (n : Str) (h : isWord n = true) : SeqAt.shaped (txtP n) = true := by
  have hs : PyData.strOk n = true := word_ok h
  have hc : (txtP n).canLay0 = true := by simp [txtP, PyData.canLay0, hs]
  have hd : (txtP n).depth ≤ 64 := by simp [txtP, PyData.depth]
  unfold SeqAt.shaped
  rw [hc, decide_eq_true hd]
  rfl
theorem txts_lay (ns : List Str) (h : ∀ n ∈ ns, isWord n = true) : PyData.canLayAll0 (ns.map txtP) = true := by
  induction ns with
  | nil => rfl
  | cons e es ih =>
    rw [List.map_cons]
    unfold PyData.canLayAll0
    rw [ih fun e h' => h e (List.mem_cons_of_mem _ h')]
    have hs : PyData.strOk e = true := word_ok (h e List.mem_cons_self)
    simp [txtP, PyData.canLay0, hs]
theorem txt_eqv (a b : Str) : PyData.eqv (txtP a) (txtP b) = decide (a = b) := by
  unfold txtP
  simp only [PyData.eqv]
  by_cases h : a = b <;> simp [h]
theorem txt_any (es : List Str) (e : Str) : ((es.map txtP).any fun z => PyData.eqv z (txtP e)) = decide (e ∈ es) := by
  induction es with
  | nil => rfl
  | cons a es ih =>
    rw [List.map_cons, List.any_cons, ih, txt_eqv]
    by_cases h : a = e
    · subst h; simp
    · have h' : ¬ e = a := fun z => h z.symm
      simp [h, h']
end SP
namespace SP
open PySem PySem.Spec PyProof.Rows L2 DD
def OddK (d : Dt) : Prop := Pln d ∧ isNum d 1 10 = false
def ctIsRecX : Ct := fun ss st ok ex => ctIsRec ss st ok ex ∨ ∃ d, ss = [.dat d] ∧ OddK d ∧ ok (.dat (.bl false)) st
def ctChkRecX (I : Addr) : Ct := fun ss st ok ex => ctChkRec ss st ok ex ∨ ∃ d, ss = [.dat d] ∧ OddK d ∧ ex ⟨I, []⟩ st
def ctOwnX (c : Cl) (I : Addr) : Ct := fun ss st ok ex => ctOwn c ss st ok ex ∨ ∃ (b : Bk) (l : Lst) (d : Dt), ss = [.dat (b.d c), .dat (lstD c l), .dat d] ∧ OddK d ∧ ex ⟨I, []⟩ st
theorem bls_sh (a b c : Bool) : SeqAt.shaped (.list [.bool a, .bool b, .bool c]) = true := by simp [SeqAt.shaped, PyData.canLay0, PyData.canLayAll0, PyData.depth, PyData.depthAll]
end SP
namespace SP
open PySem PySem.Spec PyProof.Rows L2 DD
/-- dict of pairs, by texts -/
def prK (x : Str × Dt) : Key × Dt := (.inr x.1, x.2)
theorem pairs_str (xs : List (Str × Dt)) : pairsK (xs.map fun x => .tup [.str x.1, x.2]) = some (xs.map prK) := by
  induction xs with
  | nil => rfl
  | cons e es ih =>
    rw [List.map_cons, List.map_cons, pairsK, ih]
    rfl
end SP
namespace SP
open PySem PySem.Spec PyProof.Rows L2 DD
def Bk.seen2 (b : Bk) (es : List Ep) : Bk := ⟨b.rules, b.seen ++ es⟩
def roundsF (l : Lst) (k : Nat) : Nat → Bk → List Plan
  | 0, _ => []
  | n + 1, b => if ownPlan b l k = [] then [] else ownPlan b l k :: roundsF l k n (b.seen2 (recorded b l k))
def roundsOf (b : Bk) (l : Lst) (k : Nat) : List Plan := roundsF l k 11 b
def planD (p : Plan) : Dt := dicD .int p
structure Like (b b' : Bk) : Prop where
  r : b.rules = b'.rules
  s : ∀ e, e ∈ b.seen ↔ e ∈ b'.seen
theorem Like.rule {b b' : Bk} (h : Like b b') (x : Snd) : ruleFor b x = ruleFor b' x := by
  unfold ruleFor ruleOf
  rw [h.r]
  by_cases z : (x.show_, x.episode) ∈ b.seen
  · rw [if_pos z, if_pos ((h.s _).mp z)]
  · rw [if_neg z, if_neg (fun q => z ((h.s _).mpr q))]
theorem Like.wished {b b' : Bk} (h : Like b b') (l : Lst) : SP.wished b l = SP.wished b' l := by
  unfold SP.wished
  congr 1
  funext x
  rw [h.rule]
theorem wishes_cg {b b' : Bk} {l : Lst} (h : wished b l = wished b' l) : wishes b l = wishes b' l := by
  unfold wishes sortedRows
  rw [h]
theorem sends_cg {b b' : Bk} {l : Lst} (h : wished b l = wished b' l) (e : Ep) : sendsOf b l e = sendsOf b' l e := by
  unfold sendsOf bnOf
  rw [h]
theorem taken_cg {b b' : Bk} {l : Lst} (h : wished b l = wished b' l) (k : Nat) : taken b l k = taken b' l k := by
  unfold taken
  rw [wishes_cg h]
  congr 1
  funext p e
  unfold takeStep windows
  rw [h, sends_cg h]
theorem own_cg {b b' : Bk} {l : Lst} (h : wished b l = wished b' l) (k : Nat) : ownPlan b l k = ownPlan b' l k := by
  unfold ownPlan
  rw [taken_cg h]
theorem Like.seen2 {b b' : Bk} (h : Like b b') {es es' : List Ep} (he : ∀ e, e ∈ es ↔ e ∈ es') : Like (b.seen2 es) (b'.seen2 es') := ⟨h.r, fun e => by
  show e ∈ b.seen ++ es ↔ e ∈ b'.seen ++ es'
  rw [List.mem_append, List.mem_append, h.s, he]⟩
theorem Like.rfl' (b : Bk) : Like b b := ⟨rfl, fun _ => Iff.rfl⟩
theorem rounds_cg (l : Lst) (k : Nat) : ∀ (n : Nat) (b b' : Bk), Like b b' → roundsF l k n b = roundsF l k n b'
  | 0, _, _, _ => rfl
  | n + 1, b, b', h => by
    have e := own_cg (h.wished l) k
    unfold roundsF
    have er : recorded b l k = recorded b' l k := by unfold recorded; rw [e]
    rw [e, er, rounds_cg l k n _ _ (h.seen2 fun _ => Iff.rfl)]
theorem wished_seen2 (b : Bk) (l : Lst) (es : List Ep) : wished (b.seen2 es) l = (wished b l).filter fun x => !decide (x.s.ep ∈ es) := by
  unfold wished
  rw [List.filter_filterMap]
  congr 1
  funext x
  have e : ruleFor (b.seen2 es) x.2 = if x.2.ep ∈ es then none else ruleFor b x.2 := by
    unfold ruleFor ruleOf Bk.seen2
    dsimp only
    show (if x.2.ep ∈ b.seen ++ es then none else _) = if x.2.ep ∈ es then none else if x.2.ep ∈ b.seen then none else _
    by_cases z : x.2.ep ∈ es
    · rw [if_pos z, if_pos (List.mem_append_right _ z)]
    · rw [if_neg z]
      by_cases z2 : x.2.ep ∈ b.seen
      · rw [if_pos z2, if_pos (List.mem_append_left _ z2)]
      · rw [if_neg z2, if_neg (fun q => (List.mem_append.mp q).elim z2 z)]
  rw [e]
  by_cases z : x.2.ep ∈ es
  · rw [if_pos z]
    cases ruleFor b x.2 with
    | none => rfl
    | some r => simp [Option.filter, z]
  · rw [if_neg z]
    cases ruleFor b x.2 with
    | none => rfl
    | some r => simp [Option.filter, z]
theorem nd_len {α : Type} [DecidableEq α] : ∀ (l m : List α), l.Nodup → (∀ x ∈ l, x ∈ m) → l.length ≤ m.length
  | [], m, _, _ => Nat.zero_le _
  | a :: l, m, hn, hm => by
    obtain ⟨h1, h2⟩ := List.nodup_cons.mp hn
    have ha := hm a List.mem_cons_self
    have := nd_len l (m.erase a) h2 fun x hx => (List.mem_erase_of_ne (fun z : x = a => h1 (by rw [← z]; exact hx))).mpr (hm x (List.mem_cons_of_mem _ hx))
    rw [List.length_erase_of_mem ha] at this
    have := List.length_pos_of_mem ha
    rw [List.length_cons]
    omega
theorem filter_two {α : Type} (q : α → Bool) (l : List α) : (l.filter q).length + (l.filter fun x => !q x).length = l.length := by
  induction l with
  | nil => rfl
  | cons a l ih =>
    rw [List.filter_cons, List.filter_cons]
    cases q a <;> simp <;> omega
theorem epAt_is {b : Bk} {l : Lst} (hl : LOk l) {w : Wi} (hw : w ∈ wished b l) : epAt l w.n = w.s.ep := by
  unfold epAt
  rw [hl.get (wished_mem.mp hw).1]
  rfl
/-- each round makes less of what is wished -/
theorem round_less {b : Bk} {l : Lst} (hl : LOk l) (k : Nat) : (wished (b.seen2 (recorded b l k)) l).length + (ownPlan b l k).length ≤ (wished b l).length := by
  rw [wished_seen2]
  have h2 := filter_two (fun x : Wi => decide (x.s.ep ∈ recorded b l k)) (wished b l)
  have h3 : (ownPlan b l k).length ≤ ((wished b l).filter fun x => decide (x.s.ep ∈ recorded b l k)).length := by
    have := nd_len ((ownPlan b l k).map (·.1)) (((wished b l).filter fun x => decide (x.s.ep ∈ recorded b l k)).map (·.n)) (own_ok hl k).nd fun n hn => by
      obtain ⟨x, hx, rfl⟩ := List.mem_map.mp hn
      obtain ⟨w, hw, e1, _⟩ := own_wish hl hx
      refine List.mem_map.mpr ⟨w, List.mem_filter.mpr ⟨hw, decide_eq_true ?_⟩, e1⟩
      rw [← epAt_is hl hw, e1]
      exact List.mem_map.mpr ⟨x, hx, rfl⟩
    rwa [List.length_map, List.length_map] at this
  omega
theorem seen2_ok {b : Bk} {es : List Ep} (hb : BOk b) (hs : b.seen.length + es.length ≤ 63) (hw : ∀ e ∈ es, isWord e.1 = true) : BOk (b.seen2 es) := by
  refine ⟨hb.len, hb.ok, ?_, fun e he => ?_⟩
  · show (b.seen ++ es).length ≤ 63
    rw [List.length_append]
    exact hs
  · rcases List.mem_append.mp (show e ∈ b.seen ++ es from he) with h | h
    · exact hb.sok e h
    · exact hw e h
theorem eps_nd {b : Bk} {l : Lst} (hl : LOk l) (k : Nat) : ∀ (es : List Ep) (p : Plan), es.Nodup → (planEps l p).Nodup → (∀ e ∈ es, e ∉ planEps l p) → (planEps l (es.foldl (takeStep b l k) p)).Nodup
  | [], p, _, h, _ => h
  | e :: es, p, hn, h, hd => by
    obtain ⟨n1, n2⟩ := List.nodup_cons.mp hn
    rw [List.foldl_cons]
    unfold takeStep addTo
    cases hf : firstFree (windows b l) p k (sendsOf b l e) with
    | none => exact eps_nd hl k es p n2 h fun e' he' => hd e' (List.mem_cons_of_mem _ he')
    | some x =>
      have hx : epAt l x.1 = e := first_ep (b := b) hl hf
      have e1 : planEps l (p ++ [x]) = planEps l p ++ [e] := by unfold planEps; rw [List.map_append, ← hx]; rfl
      refine eps_nd hl k es (p ++ [x]) n2 ?_ fun e' he' => ?_
      · rw [e1]
        exact List.nodup_append.mpr ⟨h, by simp, fun a ha c hc z => by rw [List.mem_singleton.mp hc] at z; subst z; exact hd a List.mem_cons_self ha⟩
      · rw [e1]
        intro z
        rcases List.mem_append.mp z with z | z
        · exact hd e' (List.mem_cons_of_mem _ he') z
        · rw [List.mem_singleton.mp z] at he'
          exact n1 he'
def tkEps (b : Bk) (l : Lst) (k : Nat) : List Ep := planEps l (taken b l k)
theorem tkEps_nd {b : Bk} {l : Lst} (hl : LOk l) (k : Nat) : (tkEps b l k).Nodup := eps_nd hl k _ [] (wishes_nd b l) (by simp [planEps]) (by simp [planEps])
/-- between two rounds -/
structure RS (b : Bk) (l : Lst) (k : Nat) (f : List Plan) (c : Bk) (n : Nat) : Prop where
  ok : BOk c
  eq : f ++ roundsF l k n c = roundsOf b l k
  few : (wished c l).length < n
  seen : c.seen.length + (wished c l).length ≤ 63
  len : f.length + n = 11
theorem RS.start {b : Bk} {l : Lst} (k : Nat) (hb : BOk b) (hl : LOk l) (hs : b.seen.length ≤ 53) : RS b l k [] b 11 := ⟨hb, rfl, by have := wished_len (b := b) hl; omega, by have := wished_len (b := b) hl; omega, rfl⟩
theorem RS.step {b : Bk} {l : Lst} {k : Nat} {f : List Plan} {c : Bk} {n : Nat} (hl : LOk l) (R : RS b l k f c n) (h : ownPlan c l k ≠ []) {es : List Ep} (he : ∀ e, e ∈ es ↔ e ∈ recorded c l k) (hlen : es.length = (ownPlan c l k).length) :
    ∃ m, n = m + 1 ∧ RS b l k (f ++ [ownPlan c l k]) (c.seen2 es) m ∧ (wished (c.seen2 es) l).length < (wished c l).length := by
  have hn : 0 < n := by have := R.few; omega
  obtain ⟨m, rfl⟩ : ∃ m, n = m + 1 := ⟨n - 1, by omega⟩
  have hlk : Like (c.seen2 es) (c.seen2 (recorded c l k)) := (Like.rfl' c).seen2 he
  have hless := round_less (b := c) hl k
  have hpos : 0 < (ownPlan c l k).length := List.length_pos_iff.mpr h
  rw [← hlk.wished l] at hless
  have hsl : (c.seen2 es).seen.length = c.seen.length + es.length := List.length_append
  have R1 := R.few
  have R2 := R.seen
  have R3 := R.len
  refine ⟨m, rfl, ⟨seen2_ok R.ok (by omega) fun e h => ?_, ?_, by omega, by omega, by simp; omega⟩, by omega⟩
  · exact rec_word (b := c) hl ((he e).mp h)
  · have := R.eq
    unfold roundsF at this
    rw [if_neg h] at this
    rw [List.append_assoc, rounds_cg l k m _ _ hlk]
    exact this
theorem RS.done {b : Bk} {l : Lst} {k : Nat} {f : List Plan} {c : Bk} {n : Nat} (R : RS b l k f c n) (h : ownPlan c l k = []) : roundsOf b l k = f := by
  have hn : 0 < n := by have := R.few; omega
  obtain ⟨m, rfl⟩ : ∃ m, n = m + 1 := ⟨n - 1, by omega⟩
  have := R.eq
  unfold roundsF at this
  rw [if_pos h, List.append_nil] at this
  exact this.symm
/-- and where each episode was -/
structure RW (b : Bk) (l : Lst) (f : List Plan) (c : Bk) (W : List (Ep × Nat)) : Prop where
  sub : ∀ w ∈ wished c l, w ∈ wished b l
  nd : (W.map (·.1)).Nodup
  w1 : ∀ y ∈ W, ∃ p, f[y.2]? = some p ∧ ∃ x ∈ p, epAt l x.1 = y.1
  w2 : ∀ (i : Nat) (p : Plan), f[i]? = some p → ∀ x ∈ p, (epAt l x.1, i) ∈ W
  w3 : ∀ y ∈ W, y.1 ∈ c.seen ∧ y.1 ∈ wishes b l
  cov : ∀ e ∈ wishes b l, e ∈ wishes c l ∨ e ∈ W.map (·.1)
  nm : ∀ p ∈ f, ∀ x ∈ p, ∃ w ∈ wished b l, w.n = x.1
  ln : ∀ p ∈ f, p.length ≤ 10
theorem RW.start (b : Bk) (l : Lst) : RW b l [] b [] := ⟨fun w h => h, by simp, fun y h => (by cases h), fun i p h => (by simp at h), fun y h => (by cases h), fun e h => .inl h, fun p h => (by cases h), fun p h => (by cases h)⟩
theorem not_seen {c : Bk} {l : Lst} {e : Ep} (h : e ∈ wishes c l) : e ∉ c.seen := by
  obtain ⟨x, hx, rfl⟩ := wishes_mem.mp h
  have h2 := (wished_mem.mp hx).2
  intro z
  unfold ruleFor ruleOf at h2
  rw [if_pos (show (x.s.show_, x.s.episode) ∈ c.seen from z)] at h2
  cases h2
theorem tk_wish {c : Bk} {l : Lst} (hl : LOk l) {k : Nat} {e : Ep} (h : e ∈ tkEps c l k) : e ∈ wishes c l := by
  obtain ⟨x, hx, rfl⟩ := List.mem_map.mp h
  obtain ⟨⟨w, hw, e1, e2⟩, _⟩ := (taken_inv (b := c) hl k).mem x hx
  rw [← e1, epAt_is hl hw]
  exact e2
theorem RW.step {b : Bk} {l : Lst} {k : Nat} {f : List Plan} {c : Bk} {W : List (Ep × Nat)} (hl : LOk l) (R : RW b l f c W) : RW b l (f ++ [ownPlan c l k]) (c.seen2 (tkEps c l k)) (W ++ (tkEps c l k).map fun e => (e, f.length)) := by
  have hw := wished_seen2 c l (tkEps c l k)
  have hfl : ∀ y ∈ W, y.2 < f.length := fun y hy => by
    obtain ⟨p, hp, _⟩ := R.w1 y hy
    exact (List.getElem?_eq_some_iff.mp hp).1
  have hup : ∀ {e : Ep}, e ∈ wishes c l → e ∈ wishes b l := fun {e} h => by
    obtain ⟨x, hx, e1⟩ := wishes_mem.mp h
    exact wishes_mem.mpr ⟨x, R.sub x hx, e1⟩
  refine ⟨fun w h => ?_, ?_, fun y hy => ?_, fun i p hp x hx => ?_, fun y hy => ?_, fun e he => ?_, fun p hp x hx => ?_, fun p hp => ?_⟩
  · rw [hw] at h
    exact R.sub w (List.mem_filter.mp h).1
  · rw [List.map_append, List.map_map]
    refine List.nodup_append.mpr ⟨R.nd, ?_, fun a ha e he z => ?_⟩
    · rw [show ((fun x : Ep × Nat => x.1) ∘ fun e : Ep => (e, f.length)) = id from rfl, List.map_id]
      exact tkEps_nd hl k
    · rw [show ((fun x : Ep × Nat => x.1) ∘ fun e : Ep => (e, f.length)) = id from rfl, List.map_id] at he
      subst z
      obtain ⟨y, hy, rfl⟩ := List.mem_map.mp ha
      exact not_seen (tk_wish hl he) (R.w3 y hy).1
  · rcases List.mem_append.mp hy with hy | hy
    · obtain ⟨p, hp, x, hx⟩ := R.w1 y hy
      exact ⟨p, by rw [List.getElem?_append_left (hfl y hy)]; exact hp, x, hx⟩
    · obtain ⟨e, he, rfl⟩ := List.mem_map.mp hy
      obtain ⟨x, hx, e1⟩ := List.mem_map.mp he
      exact ⟨_, by rw [List.getElem?_append_right (Nat.le_refl _)]; simp, x, (own_iff hl).mpr hx, e1⟩
  · by_cases h : i < f.length
    · rw [List.getElem?_append_left h] at hp
      exact List.mem_append_left _ (R.w2 i p hp x hx)
    · rw [List.getElem?_append_right (by omega)] at hp
      have hi : i - f.length = 0 := by
        cases z : i - f.length with
        | zero => rfl
        | succ m => rw [z] at hp; simp at hp
      rw [hi] at hp
      have hp : ownPlan c l k = p := by simpa using hp
      subst hp
      have : i = f.length := by omega
      subst this
      refine List.mem_append_right _ (List.mem_map.mpr ⟨epAt l x.1, List.mem_map.mpr ⟨x, (own_iff hl).mp hx, rfl⟩, rfl⟩)
  · rcases List.mem_append.mp hy with hy | hy
    · exact ⟨List.mem_append_left _ (R.w3 y hy).1, (R.w3 y hy).2⟩
    · obtain ⟨e, he, rfl⟩ := List.mem_map.mp hy
      exact ⟨List.mem_append_right _ he, hup (tk_wish hl he)⟩
  · rcases R.cov e he with h | h
    · by_cases z : e ∈ tkEps c l k
      · refine .inr (List.mem_map.mpr ⟨(e, f.length), List.mem_append_right _ (List.mem_map.mpr ⟨e, z, rfl⟩), rfl⟩)
      · obtain ⟨x, hx, e1⟩ := wishes_mem.mp h
        refine .inl (wishes_mem.mpr ⟨x, ?_, e1⟩)
        rw [hw]
        exact List.mem_filter.mpr ⟨hx, by rw [e1]; simpa using z⟩
    · rw [List.map_append]
      exact .inr (List.mem_append_left _ h)
  · rcases List.mem_append.mp hp with hp | hp
    · exact R.nm p hp x hx
    · rw [List.mem_singleton.mp hp] at hx
      obtain ⟨w, hw', e1, _⟩ := own_wish hl hx
      exact ⟨w, R.sub w hw', e1⟩
  · rcases List.mem_append.mp hp with hp | hp
    · exact R.ln p hp
    · rw [List.mem_singleton.mp hp]
      exact own_len hl k
end SP
namespace DD
open PySem PySem.Spec PyProof.Rows L2
theorem among_snoc {at_ q : Pos} {c u : Value} : ∀ {l : List Value}, TriplesOk l → codeAmong q (l ++ [rawInt at_.line, rawInt at_.col, c]) = some u → codeAmong q l = some u ∨ u = c := fun {l} ok h => LamX.among_app (pos := at_) l ok h
/-- one place of the store alone bears an address -/
theorem own_one {st : Store} (nd : (keys st).Nodup) {p : Addr} {a b : Ob} (ha : (p, a) ∈ st) (hb : (p, b) ∈ st) : a = b := by
  induction st with
  | nil => cases ha
  | cons x st ih =>
    obtain ⟨n1, n2⟩ := List.nodup_cons.mp nd
    rcases List.mem_cons.mp ha with ea | ea <;> rcases List.mem_cons.mp hb with eb | eb
    · rw [← ea] at eb
      exact (Prod.mk.inj eb).2.symm
    · exact absurd (List.mem_map.mpr ⟨_, eb, by rw [← ea]⟩) n1
    · exact absurd (List.mem_map.mpr ⟨_, ea, by rw [← eb]⟩) n1
    · exact ih n2 ea eb
/-- the reading of a lambda: P its def's table -/
def dLam (P : Addr) (q : Str) (cl : List (Str × Addr)) (k : LamK) : DE := fun _ st ok _ => (∃ (j : Nat) (Δg : List Sv) (σg : List (Option V)), st[j]? = some (P, Ob.tbl q Δg σg)) ∧ ok (.dat (.lam cl k)) st
section
variable {X : Cx} {pins : List (Addr × Obj)} {σ : L2.St} {H I0 : Hp} {s : Shared}
/-- the function object laid behind what was laid -/
theorem lam_lay {k : LamK} {cl : List (Str × Addr)} {q : Str} {dV doc pm ctv : Value} {c' : Addr} {h' : Heap} {t' : Nat} (J : Inv X pins σ H { s with heap := h', toks := t' }) :
    Inv X pins σ (upd H h'.objs.size (.frz (lamO q cl k dV doc pm c' ctv) (.ext fun _ => True))) { s with heap := h'.push (lamO q cl k dV doc pm c' ctv), toks := t' } :=
  J.laid (h' := h'.push (lamO q cl k dV doc pm c' ctv)) (t' := t') (fun b u e => Heap.get?_push_of_some _ e) (Nat.le_refl _) ⟨Heap.get?_push_size _ rfl, True.intro, ⟨_, Heap.get?_push_size _ rfl⟩, fun _ _ _ _ => True.intro⟩
/-- the world behind the making: the table told anew, what is new known -/
theorem lam_tail {E : Value → Shared → Prop} {Q : VK} {st : Store} {ok : OK} {k : LamK} {cl : List (Str × Addr)} {P c : Addr} {q : Str} {dV : Value} {j line : Nat} {Δg : List Sv} {σg : List (Option V)} {pos : Pos} (J : Inv X pins σ H s) (wd : Wd X.K st I0 H)
    (hj : st[j]? = some (P, Ob.tbl q Δg σg)) (hcl : closureFor k.scope X.env = pure (cloFrom cl k.scope.names [])) (TB : LamX.TabB X.base X.mg c P) (hcode : X.env.code = .ref c) (hd : DefIs I0 k dV) (cn : Cont X.K st I0 H ok Q) (hok : ok (.dat (.lam cl k)) st) :
    wpAny (model X.prog X.w) X.A (makeTail "<lambda>" q k.params (.expr k.body) k.scope X.env dV .none none pos line) (EP X pins σ Q) E s := by
  have hm := List.mem_of_getElem? hj
  obtain ⟨ip, o, hp, io⟩ := wd.own P _ hm
  have pk : P ∈ keys st := List.mem_map.mpr ⟨_, hm, rfl⟩
  cases io with
  | @tbl _ _ _ ps ht ha hl hs =>
    have tabP : s.heap.get? P = some (PySem.W.tabObj ps) := J.hok P _ hp
    have bP : s.heap.BuiltinsAt X.mg P := TB.bm.keeps J.bk
    have glb : s.heap.Ns mainGlobals X.mg := J.mod.glob.keeps J.bk
    cases hc : codeAmong pos ps.toList with
    | none =>
      refine PySem.W.kdv_makeTail (mg := X.mg) hcl J.ok.glob glb hcode (TB.code.keeps J.bk) tabP ht hc TB.gP bP fun c' ctv doc h' tk hx hge hlt hrec htb => ?_
      obtain ⟨c2, oc, vs, t, e2, hoc, hdt, hv⟩ := hrec
      cases e2
      have nc : H c' = none := J.hok.fresh hge
      have nf : H h'.objs.size = none := J.hok.fresh (Nat.le_trans hge (Nat.le_of_lt hlt))
      have ic : I0 c' = none := wd.sub.none nc
      have if_ : I0 h'.objs.size = none := wd.sub.none nf
      have cf : h'.objs.size ≠ c' := Nat.ne_of_gt hlt
      have Pc : P ≠ c' := ne_of_none hp nc
      have Pf : P ≠ h'.objs.size := ne_of_none hp nf
      have J1 : Inv X pins σ (upd (upd H P (.tbl (ps ++ #[rawInt pos.line, rawInt pos.col, .ref c']))) c' (LamX.CodeO c' q)) { s with heap := h', toks := tk } := LamX.inv_table J hp (fun b u ne e => hx b u ne e) htb hge ⟨oc, vs, t, hoc, hdt, hv⟩
      have J2 := lam_lay (k := k) (cl := cl) (q := q) (dV := dV) (doc := doc) (pm := (X.mg "__name__").getD .none) (ctv := ctv) (c' := c') J1
      have ex1 : Ex I0 (upd I0 c' (LamX.CodeO c' q)) := fun a u e => by rw [upd_ne (ne_of_none e ic)]; exact e
      have ex2 : Ex (upd I0 c' (LamX.CodeO c' q)) (upd (upd I0 c' (LamX.CodeO c' q)) h'.objs.size (.frz (lamO q cl k dV doc ((X.mg "__name__").getD .none) c' ctv) (.ext fun _ => True))) := fun a u e => by
        by_cases z : a = h'.objs.size
        · rw [z, upd_ne cf, if_] at e
          cases e
        · rw [upd_ne z]; exact e
      refine ⟨.ref h'.objs.size, _, J2, rfl, cn _ st _ _ _ hok ⟨fun a u e => ?_, fun p ob hpo => ?_, wd.nd⟩ ⟨ex1.trans ex2, fun a u na e => ?_, fun a e => ?_, fun _ z => .inl z⟩ (.dat (.lam (c' := c') (q := q) (dV := dV) (doc := doc) (pm := (X.mg "__name__").getD .none) (ctv := ctv) upd_same (by rw [upd_ne (Ne.symm cf)]; exact upd_same) (hd.mono (ex1.trans ex2))))⟩
      · by_cases z : a = h'.objs.size
        · rw [z, upd_same] at e
          rw [z, upd_same]
          exact .inl e
        · rw [upd_ne z] at e ⊢
          by_cases z2 : a = c'
          · rw [z2, upd_same] at e
            rw [z2, upd_same]
            exact .inl e
          · rw [upd_ne z2] at e ⊢
            have z3 : a ≠ P := ne_of_none e ip
            rw [upd_ne z3]
            exact wd.sub a u e
      · obtain ⟨h1, u, h2, h3⟩ := wd.own p ob hpo
        have n1 : p ≠ h'.objs.size := ne_of_none h2 nf
        have n2 : p ≠ c' := ne_of_none h2 nc
        refine ⟨by rw [upd_ne n1, upd_ne n2]; exact h1, ?_⟩
        rw [upd_ne n1, upd_ne n2]
        by_cases z : p = P
        · subst z
          rw [upd_same]
          obtain rfl := own_one wd.nd hpo hm
          refine ⟨_, rfl, .tbl (by rw [Array.toList_append]; exact TriplesOk_snoc _ _ _ _ ht) (fun p' cv hcv => ?_) hl fun i s hi => (hs i s hi).imp id fun ⟨v, a, b⟩ => ⟨v, a, (b.mono ex1).mono ex2⟩⟩
          rw [Array.toList_append] at hcv
          rcases among_snoc ht hcv with z | z
          · obtain ⟨c0, e1, e2⟩ := ha p' cv z
            exact ⟨c0, e1, ex2 _ _ (ex1 _ _ e2)⟩
          · exact ⟨c', z, by rw [upd_ne (Ne.symm cf)]; exact upd_same⟩
        · rw [upd_ne z]
          exact ⟨u, h2, (h3.mono ex1).mono ex2⟩
      · have z3 : a ≠ P := fun z => na (z ▸ pk)
        rw [upd_ne (ne_of_none e nf), upd_ne (ne_of_none e nc), upd_ne z3]
        exact e
      · by_cases z : a = h'.objs.size
        · exact .inr (.inl (by rw [z]; exact nf))
        · rw [upd_ne z] at e
          by_cases z2 : a = c'
          · exact .inr (.inl (by rw [z2]; exact nc))
          · rw [upd_ne z2] at e
            exact .inl e
    | some cv =>
      obtain ⟨c', rfl, hco⟩ := ha pos cv hc
      refine PySem.W.kdv_makeTailHit (mg := X.mg) hcl J.ok.glob glb hcode (TB.code.keeps J.bk) tabP ht hc bP fun ctv doc h' tk hx hsz => ?_
      have nf : H h'.objs.size = none := J.hok.fresh hsz
      have if_ : I0 h'.objs.size = none := wd.sub.none nf
      have J1 : Inv X pins σ H { s with heap := h', toks := tk } := J.kept hx
      have J2 := lam_lay (k := k) (cl := cl) (q := q) (dV := dV) (doc := doc) (pm := (X.mg "__name__").getD .none) (ctv := ctv) (c' := c') J1
      have ex2 : Ex I0 (upd I0 h'.objs.size (.frz (lamO q cl k dV doc ((X.mg "__name__").getD .none) c' ctv) (.ext fun _ => True))) := fun a u e => by rw [upd_ne (ne_of_none e if_)]; exact e
      refine ⟨.ref h'.objs.size, _, J2, rfl, cn _ st _ _ _ hok ⟨fun a u e => ?_, fun p ob hpo => ?_, wd.nd⟩ ⟨ex2, fun a u na e => ?_, fun a e => ?_, fun _ z => .inl z⟩ (.dat (.lam (c' := c') (q := q) (dV := dV) (doc := doc) (pm := (X.mg "__name__").getD .none) (ctv := ctv) upd_same (ex2 _ _ hco) (hd.mono ex2)))⟩
      · by_cases z : a = h'.objs.size
        · rw [z, upd_same] at e
          rw [z, upd_same]
          exact .inl e
        · rw [upd_ne z] at e ⊢
          exact wd.sub a u e
      · obtain ⟨h1, u, h2, h3⟩ := wd.own p ob hpo
        have n1 : p ≠ h'.objs.size := ne_of_none h2 nf
        exact ⟨by rw [upd_ne n1]; exact h1, u, by rw [upd_ne n1]; exact h2, h3.mono ex2⟩
      · rw [upd_ne (ne_of_none e nf)]
        exact e
      · by_cases z : a = h'.objs.size
        · exact .inr (.inl (by rw [z]; exact nf))
        · rw [upd_ne z] at e
          exact .inl e
/-- no default, or one that is 0 -/
def LamDef (params : Arguments) : Prop := (params.defaults = [] ∨ ∃ j p, params.defaults = [.Constant (.int 0) j p]) ∧ params.kw_defaults = []
theorem dlam {W : WX} {P c : Addr} {q : Str} {cl : List (Str × Addr)} {params : Arguments} {body : Expr} {scope : Scope} {pos : Pos} (hcl : X.env.cells = cl) (TB : LamX.TabB X.base X.mg c P) (hcode : X.env.code = .ref c) (hq : X.env.qual ++ "<lambda>" = q)
    (hfree : ∀ y ∈ scope.names, y.2 = .free → X.env.scope.names.lookup y.1 = some .cell ∨ X.env.scope.names.lookup y.1 = some .free) (hdf : LamDef params) : PEd X W (.Lambda params body scope pos) (dLam P q cl ⟨params, body, scope⟩) := by
  refine ⟨fun pins s σ H Q J h => ?_⟩
  obtain ⟨Δ, st, I0, ok, ex, wd, sl, ⟨⟨j, Δg, σg, hj⟩, hok⟩, cn, cx⟩ := h
  have hclo : closureFor scope X.env = pure (cloFrom cl scope.names []) := by
    rw [← hcl]
    exact closure_ok fun y hy e => (hfree y hy e).elim (fun k => J.ok.has _ (.inl k)) fun k => J.ok.has _ (.inr k)
  obtain ⟨h0 | ⟨jj, pp, h1⟩, hkw⟩ := hdf
  · refine PySem.W.kla_eval (by rw [defaultsOf_eq, h0, hkw]; rfl) ?_
    rw [makeFunction_eq, hq]
    simp only [List.zip_nil_right, List.filterMap_nil, List.isEmpty_nil, if_true, pure_bind]
    exact lam_tail (k := ⟨params, body, scope⟩) J wd hj hclo TB hcode (.inl ⟨h0, rfl⟩) cn hok
  · refine PySem.W.kdv_lam (by rw [h1]; rfl) hkw ?_
    rw [h1, hq]
    refine PySem.W.kdv_all1 (thn ((pe_int (X := X) (i := 0)).run pins s σ H (fun v H1 => v = .int 0 ∧ H1 = H) J ⟨rfl, rfl⟩) fun u s1 ⟨v, H1, J1, r1, e1, e2⟩ => PySem.W.kdv_all0 ?_)
    subst e1
    subst e2
    rw [makeFunction_eq]
    simp only [List.zip_nil_right, List.filterMap_nil, List.isEmpty_nil, if_true, pure_bind, List.isEmpty_cons, Bool.false_eq_true, if_false]
    refine wpAny_bind (wpAny_newTextTuple ?_)
    have nT : H1 s1.heap.objs.size = none := J1.hok.fresh (Nat.le_refl _)
    have J2 := J1.laid (a := s1.heap.objs.size) (o := .tup [.int 0]) (t' := s1.toks) (h' := s1.heap.push { cls := .type "tuple", data := .seq [u].toArray }) (fun b u e => Heap.get?_push_of_some _ e) (Nat.le_refl _)
      ⟨by rw [sizeLine_eq]; decide, [u], .cons r1 .nil, ⟨_, Heap.get?_push_size _ rfl, rfl, _, rfl⟩⟩
    have iT : I0 s1.heap.objs.size = none := wd.sub.none nT
    have ex1 : Ex I0 (upd I0 s1.heap.objs.size (.tup [.int 0])) := Ex.new iT
    have st1 : Stp st I0 H1 st (upd I0 s1.heap.objs.size (.tup [.int 0])) (upd H1 s1.heap.objs.size (.tup [.int 0])) := ⟨ex1, fun a u na e => by rw [upd_ne (ne_of_none e nT)]; exact e, fun a e => by
      by_cases z : a = s1.heap.objs.size
      · exact .inr (.inl (by rw [z]; exact nT))
      · rw [upd_ne z] at e
        exact .inl e, fun _ z => .inl z⟩
    have wd1 : Wd X.K st (upd I0 s1.heap.objs.size (.tup [.int 0])) (upd H1 s1.heap.objs.size (.tup [.int 0])) := ⟨fun a u e => by
      by_cases z : a = s1.heap.objs.size
      · rw [z, upd_same] at e
        rw [z, upd_same]
        exact .inl e
      · rw [upd_ne z] at e ⊢
        exact wd.sub a u e, fun p ob hpo => by
      obtain ⟨h1, u, h2, h3⟩ := wd.own p ob hpo
      have n1 : p ≠ s1.heap.objs.size := ne_of_none h2 nT
      exact ⟨by rw [upd_ne n1]; exact h1, u, by rw [upd_ne n1]; exact h2, h3.mono ex1⟩, wd.nd⟩
    exact lam_tail (k := ⟨params, body, scope⟩) J2 wd1 hj hclo TB hcode (.inr ⟨by rw [h1]; exact List.cons_ne_nil _ _, _, rfl, upd_same⟩) (cn.go st1) hok
end
end DD
namespace DD
open PySem PySem.Spec PyProof.Rows L2
structure Cap (N : List Str) (sc : Scope) (cl : List (Str × Addr)) (σ : L2.St) (H : Hp) (h : Heap) : Prop where
  len : σ.length = N.length
  inj : ∀ x y c, cl.lookup x = some c → cl.lookup y = some c → x = y
  has : ∀ y, sc.names.lookup y = some .cell → ∃ c, cl.lookup y = some c
  cell : ∀ y c, cl.lookup y = some c → H c = none ∧ ∃ v, h.IsCell c v
  val : ∀ (i : Nat) (y : Str) (v : V) (c : Addr), N[i]? = some y → σ[i]? = some (some v) → sc.names.lookup y = some .cell → cl.lookup y = some c → ∃ u, RelV v u ∧ h.IsCell c (some u)
section
variable {N : List Str} {sc : Scope} {cl : List (Str × Addr)} {σ σ' : L2.St} {H H' : Hp} {h h' : Heap}
theorem Cap.of {X : Cx} {pins : List (Addr × Obj)} {s : Shared} (J : Inv X pins σ H s) : Cap X.N X.env.scope X.env.cells σ H s.heap := by
  refine ⟨J.len, J.ok.inj, fun y hy => J.ok.has y (.inl hy), fun y c e => ⟨J.freeC y c e, J.cell y c e⟩, fun i y v c h1 h2 h3 h4 => ?_⟩
  obtain ⟨m, _, hl⟩ := J.loc
  obtain ⟨u, r, q⟩ := hl i y v h1 h2 (.inr (.inl h3))
  refine ⟨u, r, ?_⟩
  rcases q with ⟨k, _⟩ | ⟨_, c', e, z⟩
  · have k : X.env.scope.names.lookup y = some .local := k
    rw [h3] at k
    cases k
  · rw [h4] at e
    cases e
    exact z
theorem Cap.un {fs ex : List Addr} (C : Cap N sc cl σ H h) (u : Un fs ex H H' h h') (hx : ∀ y c, cl.lookup y = some c → c ∉ ex) : Cap N sc cl σ H' h' := by
  have go : ∀ y c w, cl.lookup y = some c → h.IsCell c w → h'.IsCell c w := fun y c w e ⟨o, ho, hd⟩ => by
    obtain ⟨sl, q⟩ := u.any ho (C.cell y c e).1 (hx y c e)
    exact ⟨_, q, hd⟩
  refine ⟨C.len, C.inj, C.has, fun y c e => ?_, fun i y v c h1 h2 h3 h4 => ?_⟩
  · obtain ⟨n, w, z⟩ := C.cell y c e
    refine ⟨?_, w, go y c w e z⟩
    obtain ⟨o, ho, _⟩ := z
    exact u.free c o ho n (hx y c e)
  · obtain ⟨w, r, z⟩ := C.val i y v c h1 h2 h3 h4
    exact ⟨w, r, go y c _ h4 z⟩
theorem Cap.weak (C : Cap N sc cl σ H h) (hl : σ'.length = σ.length) (w : ∀ (i : Nat) (y : Str) (v : V), N[i]? = some y → sc.names.lookup y = some .cell → σ'[i]? = some (some v) → σ[i]? = some (some v)) : Cap N sc cl σ' H h :=
  ⟨hl.trans C.len, C.inj, C.has, C.cell, fun i y v c h1 h2 h3 h4 => C.val i y v c h1 (w i y v h1 h3 h2) h3 h4⟩
end
/-- how the parameters are bound: none, or one by its default -/
def LamBind (k : LamK) : Prop :=
  (k.params.defaults = [] ∧ ∀ (q : Str) (cl : List (Str × Addr)) (doc pm cv ctv : Value), bindArgs (PySem.W.kdv_fn "<lambda>" q k.params (.expr k.body) k.scope cl .none doc pm cv ctv) ⟨[], []⟩ = pure []) ∨
  (k.params.defaults ≠ [] ∧ ∃ a, k.scope.names.lookup a = some .local ∧ ∀ (q : Str) (cl : List (Str × Addr)) (T : Addr) (doc pm cv ctv u : Value), ∃ kk,
    bindArgs (PySem.W.kdv_fn "<lambda>" q k.params (.expr k.body) k.scope cl (.ref T) doc pm cv ctv) ⟨[], []⟩ = seqItems? (.ref T) >>= kk ∧ kk (some #[u]) = pure [(a, u)])
def lamB (N : List Str) (sc : Scope) (k : LamK) : Bool :=
  decide (k.scope.kind = .function) && (!k.scope.isCoroutine && (!k.scope.isGenerator && (k.scope.names.all (fun y => !decide (y.2 = .cell) && ((!decide (y.2 = .free) || decide (sc.names.lookup y.1 = some .cell)) && (!decide (k.scope.names.lookup y.1 = some .local) || !N.contains y.1))))))
structure LamG (N : List Str) (sc : Scope) (k : LamK) : Prop where
  kind : k.scope.kind = .function
  co : k.scope.isCoroutine = false
  gen : k.scope.isGenerator = false
  nocell : ∀ y ∈ k.scope.names, y.2 ≠ .cell
  free : ∀ y ∈ k.scope.names, y.2 = .free → sc.names.lookup y.1 = some .cell
  loc : ∀ y, k.scope.names.lookup y = some .local → y ∉ N
theorem lamG_of {N : List Str} {sc : Scope} {k : LamK} (h : lamB N sc k = true) : LamG N sc k := by
  unfold lamB at h
  simp only [Bool.and_eq_true, Bool.or_eq_true, Bool.not_eq_true', decide_eq_true_eq, decide_eq_false_iff_not, List.all_eq_true] at h
  obtain ⟨h1, h2, h3, h4⟩ := h
  refine ⟨h1, h2, h3, fun y hy => (h4 y hy).1, fun y hy e => (h4 y hy).2.1.resolve_left (fun z => z e), fun y hy => ?_⟩
  have q := (h4 _ (PySem.mem_of_lookup hy)).2.2.resolve_left (fun z => z hy)
  intro z
  have : N.contains y = true := List.contains_iff_mem.mpr z
  have q : N.contains y = false := q
  rw [q] at this
  cases this
/-- how its parameters are bound -/
theorem lam_binds {k : LamK} {cl : List (Str × Addr)} {q : Str} {dV doc pm cv ctv : Value} {s : Shared} (hs : LamBind k)
    (hd : (k.params.defaults = [] ∧ dV = .none) ∨ (k.params.defaults ≠ [] ∧ ∃ T o u n, dV = .ref T ∧ s.heap.get? T = some o ∧ o.data = .seq #[u] n)) :
    ∃ bs, BindsTo s (PySem.W.kdv_fn "<lambda>" q k.params (.expr k.body) k.scope cl dV doc pm cv ctv) ⟨[], []⟩ bs ∧ ∀ y ∈ bs, k.scope.names.lookup y.1 = some .local := by
  rcases hs with ⟨h0, hb⟩ | ⟨h1, a, ha, hb⟩
  · rcases hd with ⟨_, rfl⟩ | ⟨z, _⟩
    · exact ⟨[], .of_eq (hb _ _ _ _ _ _), fun y hy => (by cases hy)⟩
    · exact absurd h0 z
  · rcases hd with ⟨z, _⟩ | ⟨_, T, o, u, n, rfl, ho, hod⟩
    · exact absurd z h1
    · obtain ⟨kk, e1, e2⟩ := hb q cl T doc pm cv ctv u
      refine ⟨[(a, u)], .of_defaults (T := T) rfl ho hod e1 e2, fun y hy => ?_⟩
      rw [List.mem_singleton.mp hy]
      exact ha
abbrev lamE (q : Str) (cl : List (Str × Addr)) (scope : Scope) (L f c' : Addr) : Env := PySem.W.envX q scope L f (.ref c') (cloFrom cl scope.names [])
def lamC (P : Program) (w : World) (K : PySem.W.Frag) (mg : Str → Option Value) (base : Heap) (N : List Str) (q : Str) (cl : List (Str × Addr)) (A : Around) (outer : List Env) (s : Shared) (H : Hp) (E : XK) (scope : Scope) (f c' : Addr) : Cx :=
  { prog := P, w := w, K := K, mg := mg, base := base, A := A.deeper (lamE q cl scope s.heap.objs.size f c'), N := N, s_0 := s, H_0 := H, env := lamE q cl scope s.heap.objs.size f c', outer := outer, stack := lamE q cl scope s.heap.objs.size f c' :: outer, ex := [], fn := fun _ => false, calm := true, pn := [],
    xe := fun e s' => wpAny (model P w) (A.deeper (lamE q cl scope s.heap.objs.size f c')) (leaving (lamE q cl scope s.heap.objs.size f c') e) (fun _ s'' => L2.CX P w outer H s E e s'') (fun e' s'' => L2.CX P w outer H s E e' s'') s' }
section
variable {P : Program} {w : World} {K : PySem.W.Frag} {mg : Str → Option Value} {base : Heap} {N : List Str} {sc : Scope} {cl : List (Str × Addr)} {σ : L2.St} {H : Hp} {s : Shared} {A : Around} {outer : List Env} {E : XK} {q : Str} {k : LamK} {f c' : Addr}
theorem lam_cell (G : LamG N sc k) (C : Cap N sc cl σ H s.heap) {y : Str} {c : Addr} (e : (cloFrom cl k.scope.names []).lookup y = some c) : cl.lookup y = some c ∧ sc.names.lookup y = some .cell := by
  rcases cloFrom_mem (PySem.mem_of_lookup e) with z | ⟨h1, h2⟩
  · cases z
  · have hs := G.free _ h1 rfl
    obtain ⟨c1, hc⟩ := C.has y hs
    refine ⟨?_, hs⟩
    rw [h2, hc]
    rfl
theorem lam_enter {h₁ : Heap} {tk : Nat} {m : Str → Option Value} (G : LamG N sc k) (C : Cap N sc cl σ H s.heap) (e0 : Env0 P w K mg base A outer s H) (hd : A.handled = none) (hns : h₁.Ns s.heap.objs.size m) (kp : ∀ b o, s.heap.get? b = some o → h₁.get? b = some o) :
    Inv (lamC P w K mg base N q cl A outer s H E k.scope f c') [] σ H { s with heap := h₁, toks := tk } := by
  have nox : ∀ b : Addr, b ∉ (lamC P w K mg base N q cl A outer s H E k.scope f c').ex := fun b z => absurd (show b ∈ ([] : List Addr) from z) (by simp)
  have up : ∀ {c v}, s.heap.IsCell c v → h₁.IsCell c v := fun ⟨o, a, b⟩ => ⟨o, kp _ _ a, b⟩
  have there : ∀ {y}, k.scope.names.lookup y = some .free → ∃ c, (cloFrom cl k.scope.names []).lookup y = some c := fun hy => mem_lookup (cloFrom_has (cells := cl) (acc := []) (PySem.mem_of_lookup hy))
  constructor
  · constructor
    · exact e0.mod
    · exact G.kind
    · rfl
    · rfl
    · exact Nat.le_refl _
    · exact fun y z c a b => C.inj y z c (lam_cell G C a).1 (lam_cell G C b).1
    · intro y hy
      have hy : k.scope.names.lookup y = some .cell ∨ k.scope.names.lookup y = some .free := hy
      rcases hy with hy | hy
      · exact absurd rfl (G.nocell _ (PySem.mem_of_lookup hy))
      · exact there hy
    · intro y c z
      have z : false = true := z
      cases z
    · exact fun _ => hd
    · exact Around.frames_deeper e0.frames
    · exact .inr ⟨rfl, rfl⟩
    · exact fun b z => absurd z (nox b)
    · exact e0.bs
    · exact e0.bsz
    · exact fun b _ _ => nox b
    · exact fun b z => absurd z (nox b)
    · exact e0.funs
    · exact e0.frf
  · rfl
  · exact e0.bare
  · exact Un.kept kp
  · refine ⟨m, hns, fun i y v h1 h2 h3 => ?_⟩
    have h3 : Vis k.scope y := h3
    have h1 : N[i]? = some y := h1
    rcases h3 with z | z | z
    · exact absurd (List.mem_of_getElem? h1) (G.loc y z)
    · exact absurd rfl (G.nocell _ (PySem.mem_of_lookup z))
    · obtain ⟨c, hc⟩ := there z
      obtain ⟨c1, c2⟩ := lam_cell G C hc
      obtain ⟨u, r, hu⟩ := C.val i y v c h1 h2 c2 c1
      exact ⟨u, r, .inr ⟨.inr z, c, hc, up hu⟩⟩
  · intro y c e
    obtain ⟨v, z⟩ := (C.cell y c (lam_cell G C e).1).2
    exact ⟨v, up z⟩
  · exact e0.hok.fresh (Nat.le_refl _)
  · exact fun y c e => (C.cell y c (lam_cell G C e).1).1
  · exact fun p z => absurd (show p ∈ ([] : List (Addr × Obj)) ++ [] from z) (by simp)
  · exact e0.hok.kept kp
  · exact C.len
/-- the lambda called -/
theorem lam_run {dV doc pm ctv : Value} {j : Nat} {tb : TE} {Q : VK} (G : LamG N sc k) (B : LamBind k) (C : Cap N sc cl σ H s.heap) (ho : s.heap.get? f = some (lamO q cl k dV doc pm c' ctv)) (hco : ∃ (oc : Obj) (vs : Array Value) (t : Tok), s.heap.get? c' = some oc ∧ oc.data = .fields vs ∧ vs[1]? = some (.str q t))
    (hdf : (k.params.defaults = [] ∧ dV = .none) ∨ (k.params.defaults ≠ [] ∧ ∃ T o u n, dV = .ref T ∧ s.heap.get? T = some o ∧ o.data = .seq #[u] n)) (e0 : Env0 P w K mg base A outer s H) (hr : Room (j + 1) A)
    (hbody : Room j (A.deeper (lamE q cl k.scope s.heap.objs.size f c')) → PE (lamC P w K mg base N q cl A outer s H E k.scope f c') k.body tb) (ht : tb σ H Q) :
    codeAny (model P w) A (.call (.ref f) ⟨[], []⟩) (CR (L2.CX P w) outer P w H s Q E) s := by
  obtain ⟨oc, vs, t, hoc, hdc, hvc⟩ := hco
  obtain ⟨bs, hb, hloc⟩ := lam_binds (s := s) (q := q) (cl := cloFrom cl k.scope.names []) (doc := doc) (pm := pm) (cv := .ref c') (ctv := ctv) B hdf
  refine PySem.W.kla_callFunE hr.depth ho rfl G.co G.gen rfl ⟨c', oc, vs, t, rfl, hoc, hdc, hvc⟩ ?_
  refine hb _ _ _ _ (wpAny_newFunctionEnv (fun y hy => G.nocell y hy) hloc (fun h₁ hns hsb => ⟨(e0.mod.nolimit.keeps fun b o e => (e0.bs b o e).1).fresh _ hsb, ?_⟩) G.kind)
  show codeAny _ _ (.expr k.body (lamE q cl k.scope s.heap.objs.size f c')) _ _
  have kp : ∀ b o, s.heap.get? b = some o → h₁.get? b = some o := fun b o e => hsb.extBut b o (Nat.ne_of_lt (Heap.lt_size e)) (Heap.get?_push_of_some _ e)
  have J := lam_enter (tk := s.toks + bs.length) (q := q) (E := E) (f := f) (c' := c') G C e0 hr.hd hns kp
  refine PySem.W.kla_codeExpr (wpAny_mono ((hbody (hr.deeper _)).run [] _ _ H Q J ht) (fun v s' hq => ?_) fun e s' hq => hq)
  obtain ⟨x, H', J', rv, hQ⟩ := hq
  exact ⟨x, H', J'.os, J'.bare, J'.base, J'.hok, rv, hQ⟩
end
end DD
namespace DD
open PySem PySem.Spec PyProof.Rows L2
/-- the call of what was handed in: σ the maker's slots at the def's call -/
def dAct (P : Addr) (cl : List (Str × Addr)) (Λ : List (LamK × DE)) (σ : L2.St) : DE := fun Δ2 st ok ex =>
  ∃ (k : LamK) (tb : DE) (i j : Nat) (q : Str) (Δ : List Sv), Δ2[0]? = some (.dat (.lam cl k)) ∧ Λ[i]? = some (k, tb) ∧ st[j]? = some (P, Ob.tbl q Δ σ) ∧ tb Δ st ok ex
/-- each of the lambdas has its reading -/
def LamsOk (P : Program) (w : World) (K : PySem.W.Frag) (mg : Str → Option Value) (base : Heap) (N : List Str) (sc : Scope) (cl : List (Str × Addr)) (j : Nat) (Λ : List (LamK × DE)) : Prop :=
  ∀ (i : Nat) (k : LamK) (tb : DE), Λ[i]? = some (k, tb) → LamG N sc k ∧ LamBind k ∧ ∀ (q : Str) (A : Around) (outer : List Env) (s : Shared) (H : Hp) (E : XK) (f c' : Addr), Room j (A.deeper (lamE q cl k.scope s.heap.objs.size f c')) →
    Takes (lamC P w K mg base N q cl A outer s H E k.scope f c') (WF E) → PEd (lamC P w K mg base N q cl A outer s H E k.scope f c') (WF E) k.body tb
theorem act_pe {P : Program} {w : World} {K : PySem.W.Frag} {mg : Str → Option Value} {base : Heap} {N Ng : List Str} {sc sg : Scope} {cl : List (Str × Addr)} {σ0 : L2.St} {H : Hp} {s : Shared} {Λ : List (LamK × DE)} {j : Nat} {Pt g : Addr} {qg a : Str} {cdg : Value} {A : Around} {outer : List Env} {Eg : XK}
    {pn : List (Addr × Obj)} {xe : Value → Shared → Prop} {W : WX} {p1 p2 : Pos} (C : Cap N sc cl σ0 H s.heap) (L : LamsOk P w K mg base N sc cl j Λ) (hr : Room (j + 1) (A.deeper (envOfC qg sg s.heap.objs.size g cdg)))
    (tk : Takes ((cxD P w K mg base Ng qg sg g cdg A outer s H Eg).tr pn xe) W) (hN : Ng[0]? = some a) (hv : Vis sg a) (hd : (a == ("__debug__" : Str)) = false) (hcd : (a == ("__classdict__" : Str)) = false) :
    PEd ((cxD P w K mg base Ng qg sg g cdg A outer s H Eg).tr pn xe) W (.Call (.Name a p1) [] [] p2) (dAct Pt cl Λ σ0) := by
  refine ⟨fun pinsZ sZ σZ HZ Q JZ h => ?_⟩
  obtain ⟨Δ2, st, I, ok, ex, wd, sl, ⟨k, tb, i, jj, q', Δ, h0, hΛ, hst, hb⟩, cn, cx⟩ := h
  obtain ⟨G, B, hbody⟩ := L i k tb hΛ
  rcases sl.2 0 _ h0 with z | ⟨v0, hs0, iv⟩
  · cases z
  cases iv with
  | dat hd0 =>
  cases hd0 with
  | @lam _ _ f c' q dV doc pm ctv hf hc hdv =>
  refine wpAny_Call_Name_kw (thn ((pe_var (pos := p1) (i := 0) hN hv hd hcd).run pinsZ sZ σZ HZ (fun v H1 => v = .ref f ∧ H1 = HZ) JZ ⟨.ref f, hs0, rfl, rfl⟩) fun u s1 ⟨v, H1, J1, r1, e1, e2⟩ => ?_)
  subst e1
  subst e2
  obtain rfl : u = Value.ref f := r1
  have hfH := wd.sub.at hf (by intro k z; cases z) (by intro k z; cases z)
  have hcH : H1 c' = some (LamX.CodeO c' q) := wd.sub.at hc (by intro k z; unfold LamX.CodeO at z; cases z) (by intro k z; unfold LamX.CodeO at z; cases z)
  have of1 : s1.heap.get? f = some (lamO q cl k dV doc pm c' ctv) := (J1.hok f _ hfH).1
  obtain ⟨⟨oc, vs, t, hoc, hdc, hvc⟩, _, _⟩ := J1.hok c' _ hcH
  refine PySem.W.callWith_F0 ⟨_, _, _, _, of1⟩ ?_
  have Cs : Cap N sc cl σ0 H1 s1.heap := Cap.un C J1.base (fun _ _ _ z => nomatch (show _ ∈ ([] : List Addr) from z))
  have slD : Sl K Δ I σ0 := by
    obtain ⟨_, o, _, io⟩ := wd.own Pt _ (List.mem_of_getElem? hst)
    cases io with
    | tbl _ _ h1 h2 => exact ⟨h1, h2⟩
  have dfl : (k.params.defaults = [] ∧ dV = .none) ∨ (k.params.defaults ≠ [] ∧ ∃ T o u n, dV = .ref T ∧ s1.heap.get? T = some o ∧ o.data = .seq #[u] n) := by
    refine hdv.imp id fun ⟨z, T, e1, e2⟩ => ⟨z, T, ?_⟩
    obtain ⟨_, its, ri, o, ho, _, n, hn⟩ := J1.hok T _ (wd.sub.at e2 (by intro k z; cases z) (by intro k z; cases z))
    cases ri with
    | cons r t =>
      cases t
      exact ⟨o, _, n, e1, ho, hn⟩
  have rc := lam_run (E := fun cls d H' => W cls d σZ H') (tb := low K tb (WF fun cls d H' => W cls d σZ H')) (Q := Q) G B Cs of1 ⟨oc, vs, t, hoc, hdc, hvc⟩ dfl J1.env0 hr
    (fun hr2 => hbody q _ _ s1 H1 _ f c' hr2 (takes_of rfl rfl rfl rfl)) ⟨Δ, st, I, ok, ex, wd, slD, hb, cn, cx⟩
  refine wpAny_call (codeAny_mono rc fun r s' hq => ?_)
  cases r with
  | error e => exact tk e s' (XE.of_call J1 (fun cls d H' z => z) hq)
  | ok fl =>
    cases fl with
    | ret u => exact J1.after hq
    | next => exact False.elim hq
    | brk => exact False.elim hq
    | cont => exact False.elim hq
/-- a judgement that may lean on what the cells hold -/
structure PEc (Y : Cx) (sc : Scope) (cl : List (Str × Addr)) (e : Expr) (t : TE) : Prop where
  run : ∀ (pins : List (Addr × Obj)) (s : Shared) (σ : L2.St) (H : Hp) (Q : VK), Inv Y pins σ H s → (∀ pins' H' s', Inv Y pins' σ H' s' → Cap Y.N sc cl σ H' s'.heap) → t σ H Q → wpAny (model Y.prog Y.w) Y.A (eval e Y.env) (EP Y pins σ Q) Y.xe s
/-- F(x), x a slot that holds one of the lambdas -/
def dFail (P : Addr) (cl : List (Str × Addr)) (Λ : List (LamK × DE)) (tF : DE → DS) (n i : Nat) : DE := fun Δ st ok ex =>
  ∃ (d : Sv) (j : Nat) (q : Str) (Δg : List Sv) (σg : List (Option V)), Δ[i]? = some d ∧ d ≠ .un ∧ st[j]? = some (P, Ob.tbl q Δg σg) ∧ ∀ σ : L2.St, tF (dAct P cl Λ σ) (d :: List.replicate (n - 1) .un) (st.set j (P, Ob.tbl q Δ σ)) (endsOf ok ex)
/-- the table's ghost told anew -/
theorem wd_ghost {K : PySem.W.Frag} {st : Store} {I H : Hp} {j : Nat} {P : Addr} {q : Str} {Δ Δg : List Sv} {σg : List (Option V)} {σ : L2.St} (w : Wd K st I H) (hj : st[j]? = some (P, Ob.tbl q Δg σg)) (sl : Sl K Δ I σ) : Wd K (st.set j (P, Ob.tbl q Δ σ)) I H ∧ Stp st I H (st.set j (P, Ob.tbl q Δ σ)) I H := by
  have hl : j < st.length := (List.getElem?_eq_some_iff.mp hj).1
  have ek : keys (st.set j (P, Ob.tbl q Δ σ)) = keys st := by
    refine List.ext_getElem? fun i => ?_
    rw [List.getElem?_map, List.getElem?_map]
    by_cases e : j = i
    · subst e
      rw [List.getElem?_set_self hl, hj]
      rfl
    · rw [List.getElem?_set_ne e]
  refine ⟨⟨w.sub, fun p ob hp => ?_, by rw [ek]; exact w.nd⟩, ⟨Ex.refl _, fun _ _ _ e => e, fun _ e => .inl e, fun p hp => .inl (ek ▸ hp)⟩⟩
  rcases List.mem_or_eq_of_mem_set hp with z | z
  · exact w.own p ob z
  · cases z
    obtain ⟨h1, o, h2, h3⟩ := w.own P _ (List.mem_of_getElem? hj)
    cases h3 with
    | tbl a b _ _ => exact ⟨h1, _, h2, .tbl a b sl.1 sl.2⟩
theorem lamcall {Y : Cx} {W : WX} {sc : Scope} {cl : List (Str × Addr)} {P g : Addr} {Λ : List (LamK × DE)} {jr i : Nat} {x a y : Str} {fd : FuncData} {st0 : Stmt} {Ng : List Str} {tF : DE → DS} {p py pos : Pos}
    (Fg : Fun Y.K x x st0 g fd) (Sg : FnScope Ng [a] (defScope st0)) (hm : Y.mg x = some (.ref g)) (hb : Binds Y.K fd [a] []) (hr : Room (jr + 2) Y.A) (tk : Takes Y W) (L : LamsOk Y.prog Y.w Y.K Y.mg Y.base Y.N sc cl jr Λ)
    (hF : ∀ (cdv : Value) (A : Around) (outer : List Env) (s : Shared) (H : Hp) (E : XK) (act : DE), Room (jr + 1) (A.deeper (envOfC x (defScope st0) s.heap.objs.size g cdv)) → Takes (cxD Y.prog Y.w Y.K Y.mg Y.base Ng x (defScope st0) g cdv A outer s H E) (WF E) →
      PassesOwn (model Y.prog Y.w) (cxD Y.prog Y.w Y.K Y.mg Y.base Ng x (defScope st0) g cdv A outer s H E).A (cxD Y.prog Y.w Y.K Y.mg Y.base Ng x (defScope st0) g cdv A outer s H E).env (cxD Y.prog Y.w Y.K Y.mg Y.base Ng x (defScope st0) g cdv A outer s H E).xe →
      (∀ (V : WX) (pn : List (Addr × Obj)) (xe : Value → Shared → Prop) (p1 p2 : Pos), Takes ((cxD Y.prog Y.w Y.K Y.mg Y.base Ng x (defScope st0) g cdv A outer s H E).tr pn xe) V → PEd ((cxD Y.prog Y.w Y.K Y.mg Y.base Ng x (defScope st0) g cdv A outer s H E).tr pn xe) V (.Call (.Name a p1) [] [] p2) act) →
      PBd (cxD Y.prog Y.w Y.K Y.mg Y.base Ng x (defScope st0) g cdv A outer s H E) (WF E) (defBody st0) (tF act))
    (hN0 : Ng[0]? = some a := by rfl) (hva : Vis (defScope st0) a := by first | exact Or.inl rfl | exact Or.inr (Or.inl rfl)) (hg : Gl Y x := by rfl) (hNy : Y.N[i]? = some y := by rfl) (hvy : Vis Y.env.scope y := by first | exact Or.inl rfl | exact Or.inr (Or.inl rfl) | exact Or.inr (Or.inr rfl))
    (d1 : (x == ("__debug__" : Str)) = false := by decide) (d2 : (a == ("__debug__" : Str)) = false := by decide) (d3 : (a == ("__classdict__" : Str)) = false := by decide) (d4 : (y == ("__debug__" : Str)) = false := by decide) (d5 : (y == ("__classdict__" : Str)) = false := by decide)
    (he : starEach [.Name y py] Y.env = (false, eval (.Name y py) Y.env) :: starEach [] Y.env := by rfl) (hpl : (backTo pos (starEach [] Y.env)).any (·.1) = false := by rfl) :
    PEc Y sc cl (.Call (.Name x p) [.Name y py] [] pos) (low Y.K (dFail P cl Λ tF Ng.length i) W) := by
  refine ⟨fun pins s σ H Q J C h => ?_⟩
  obtain ⟨Δ, st, I, ok, ex, wd, sl, ⟨d, j, q, Δg, σg, hi, hun, hst, ht⟩, cn, cx⟩ := h
  rcases sl.2 i _ hi with z | ⟨v, hv, iv⟩
  · exact absurd z hun
  refine wpAny_Call_Name_kw (ld_glob J hg hm ?_ d1)
  refine PySem.W.callWith_K (h₀ := Y.base) J.ok.mod.kin Fg.kp (thn ((pa_cons (pe_var (pos := py) hNy hvy d4 d5) pa_nil he).run pos pins s σ H (fun vs H1 => vs = [v] ∧ H1 = H) J ⟨v, hv, rfl, rfl⟩) fun us s1 ⟨vs, H1, J1, r, e1, e2⟩ => ⟨J1.kIn, ?_⟩) he hpl
  subst e1
  subst e2
  obtain ⟨oc, od, kV, doc, pm, an, cdv, ct, osl, rfl, lk, hcd⟩ := Fg.ex
  have hb1 := hb s1 us J1.kIn (by rw [List.append_nil, ← r.length]; rfl)
  rw [List.append_nil] at hb1
  obtain ⟨w2, sp2⟩ := wd_ghost wd hst sl
  have rc : codeAny (model Y.prog Y.w) Y.A (.call (.ref g) ⟨us, []⟩) (CR (L2.CX Y.prog Y.w) Y.stack Y.prog Y.w H1 s1 Q fun cls d H' => W cls d σ H') s1 := by
    refine LamX.run_ofS (N := Ng) (ps := [a]) (us := us) (vs := [v]) lk hcd Sg hr J1.env0 hb1 r rfl fun hr' => ?_
    refine ⟨_, hF cdv Y.A Y.stack s1 H1 (fun cls d H' => W cls d σ H') (dAct P cl Λ σ) hr' (takes_of rfl rfl rfl rfl) (passes_of rfl) fun V pn xe p1 p2 tk2 => act_pe (C _ _ _ J1) L hr' tk2 hN0 hva d2 d3, ?_⟩
    refine lowS_go w2 (sl_start (.cons iv .nil)) (ht σ) ⟨?_, ?_, ?_, ?_, ?_⟩
    · rintro Δ' st' σ' I' H' ⟨st'', hs, h'⟩ w' s' l'
      exact (cn.go sp2) _ _ _ _ _ h' (wd_drop w' hs) (stp_drop s' hs) (.dat .non)
    · rintro x st' v' I' H' ⟨s', st'', hf, h'⟩ w' sp i'
      obtain ⟨I2, w3, s3, i2⟩ := fin_ok w' sp i' hf
      exact (cn.go sp2) _ _ _ _ _ h' w3 s3 i2
    · intro _ _ _ _ _ h'
      exact h'.elim
    · intro _ _ _ _ _ h'
      exact h'.elim
    · rintro x Δ' st' cls d σ' I' H' ⟨st'', hs, h'⟩ w' sp l' xi
      exact (cx.go sp2) x st'' cls d I' H' h' (wd_drop w' hs) (stp_drop sp hs) xi
  refine wpAny_call (codeAny_mono rc fun r s' hq => ?_)
  cases r with
  | error e => exact tk e s' (XE.of_call J1 (fun cls d H' z => z) hq)
  | ok fl =>
    cases fl with
    | ret u => exact J1.after hq
    | next => exact False.elim hq
    | brk => exact False.elim hq
    | cont => exact False.elim hq
end DD
namespace DD
open PySem PySem.Spec PyProof.Rows L2
theorem wipe_keep {x : V} : ∀ {vs : List Nat} {σ : L2.St} {i : Nat}, σ[i]? = some (some x) → i ∉ vs → (wipe σ vs)[i]? = some (some x)
  | [], _, _, h, _ => h
  | v :: vs, σ, i, h, n => by
    have n1 : v ≠ i := fun e => n (e ▸ List.mem_cons_self)
    show ((wipe σ vs).set v none)[i]? = _
    rw [List.getElem?_set_ne n1]
    exact wipe_keep h fun z => n (List.mem_cons_of_mem _ z)
theorem cap_core {X : Cx} {elt tg iter : Expr} {ifs : List Expr} {scope : Scope} {own : List (Str × Nat)} {pos pos2 : Pos} {wi : TI} {g : TG} {tt : TT} {te : TE} {use : Option (Value → Sem Unit)} {Qf : Value → Shared → Prop}
    {pins : List (Addr × Obj)} {s : Shared} {σ : L2.St} {H : Hp} {Q : VK} (J : Inv X pins σ H s)
    (cal : X.calm = true) (hN : X.N.Nodup) (hi : PI X tg iter wi) (ok : BlkOk X.N X.env.scope scope own) (hown : ∀ p ∈ own, X.env.scope.names.lookup p.1 ≠ some .cell)
    (pgs : ∀ (s : Shared) (H : Hp) (C : Addr) (cl : List (Str × Addr)) (fp : List Addr),
      PG (X.blk s H scope (compEnvC scope cl C X.env) fp) tg g)
    (pts : ∀ (s : Shared) (H : Hp) (C : Addr) (cl : List (Str × Addr)) (fp : List Addr),
      PTs (X.blk s H scope (compEnvC scope cl C X.env) fp) ifs tt)
    (pes : ∀ (s : Shared) (H : Hp) (C : Addr) (cl : List (Str × Addr)) (fp : List Addr),
      PEc (X.blk s H scope (compEnvC scope cl C X.env) fp) X.env.scope X.env.cells elt te)
    (hs : ∀ x, foldedSetIterable iter X.env x = pure x) (h : tLc wi g tt te (own.map (·.2)) σ H Q)
    (last : ∀ D C s' m H', Inv X pins σ H' s' → Q (.ref D) H' → s'.heap.Ns C m → FpOk X pins H' C →
      compPost (model X.prog X.w) X.A X.xe use Qf (.ref D) C (.ok .next) s') :
    wpAny (model X.prog X.w) X.A (comprehension (.ListComp elt [⟨tg, iter, ifs, 0⟩] scope pos) scope X.env pos2 (newList []) false (eval iter X.env) use) Qf X.xe s := by
  have free_ : ∀ y ∈ scope.names, y.2 = .free → ∃ c, X.env.cells.lookup y.1 = some c := fun y hy e =>
    (ok.free y hy e).elim (fun k => J.ok.has _ (.inl k)) fun k => J.ok.has _ (.inr k)
  refine wpAny_comprehension_free (use := use) rfl hs (closure_ok free_) ok.kind (fun y hy e => by
    rw [ok.uniq y hy, e]) (thn (hi.run pins s σ H _ J h) fun xv sA hA => thn hA fun itv sB hB => ?_)
  obtain ⟨it, fp, tn, T0, HB, e0, JB, T, tnB, fpB, q⟩ := hB
  subst e0
  refine wpAny_newObj_type (newEnv_comp ?_) (by
    show 0 ≤ sizeLine
    decide)
  obtain ⟨D, hD⟩ : ∃ D, sB.heap.objs.size = D := ⟨_, rfl⟩
  rw [hD]
  have DB : HB D = none := JB.hok.fresh (Nat.le_of_eq hD)
  obtain ⟨Wt, ⟨m0, w0⟩, turn⟩ := q D DB
  obtain ⟨sC, eC⟩ : ∃ sC : Shared, ({ sB with heap := sB.heap.push { cls := .type "list", data := .seq ([] : List Value).toArray } } : Shared) = sC := ⟨_, rfl⟩
  have JC : Inv X pins σ (upd HB D (.lst [])) sC := by
    rw [← eC]
    refine JB.laid (t' := sB.toks) (fun b o e => Heap.get?_push_of_some _ e) (Nat.le_of_eq hD) ⟨Nat.zero_le _, [], 0, .nil, ?_⟩
    rw [← hD]
    exact Heap.get?_push_size _ rfl
  have hpC : sC.heap = sB.heap.push { cls := .type "list", data := .seq ([] : List Value).toArray } := by
    rw [← eC]
  have fpC : ∀ b ∈ fp, FpOk X pins (upd HB D (.lst [])) b ∧ b < sC.heap.objs.size := fun b hb => by
    obtain ⟨o, e, _⟩ := T.obj _ _ tnB b hb
    have lt := Heap.lt_size e
    constructor
    · refine ⟨?_, (fpB b hb).2⟩
      rw [upd_ne (hD ▸ Nat.ne_of_lt lt)]
      exact (fpB b hb).1
    · rw [hpC, Heap.size_push]
      exact Nat.lt_succ_of_lt lt
  have tnC : tn 0 sC.heap := T.keep _ _ _ tnB fun b _ o e => by
    rw [hpC]
    exact Heap.get?_push_of_some _ e
  obtain ⟨HC, eHC⟩ : ∃ HC, upd HB D (.lst []) = HC := ⟨_, rfl⟩
  rw [eHC] at JC fpC w0
  have JD := block_start JC ok hN fpC
  obtain ⟨ce, ece⟩ : ∃ ce, compEnvC scope (cellsFrom (sC.heap.objs.size + 1) scope.names (cloFrom X.env.cells scope.names [])) sC.heap.objs.size X.env = ce := ⟨_, rfl⟩
  have pg := pgs sC HC sC.heap.objs.size (cellsFrom (sC.heap.objs.size + 1) scope.names (cloFrom X.env.cells scope.names [])) fp
  have pt := pts sC HC sC.heap.objs.size (cellsFrom (sC.heap.objs.size + 1) scope.names (cloFrom X.env.cells scope.names [])) fp
  have pe := pes sC HC sC.heap.objs.size (cellsFrom (sC.heap.objs.size + 1) scope.names (cloFrom X.env.cells scope.names [])) fp
  have cL : ce.locals = sC.heap.objs.size := by
    rw [← ece]
    rfl
  rw [ece] at JD pg pt pe
  rw [eC]
  show codeAny _ _ (.compStart (.ListComp elt [⟨tg, iter, ifs, 0⟩] scope pos) 0 (.ref it) (.ref D) (compEnvC scope (cellsFrom (sC.heap.objs.size + 1) scope.names
    (cloFrom X.env.cells scope.names [])) sC.heap.objs.size X.env)) _ { sC with heap := pushCells (sC.heap.push { cls := .type "dict", data := .dict #[] }) scope.names }
  rw [ece]
  obtain ⟨sD, eD⟩ : ∃ sD : Shared, ({ sC with heap := pushCells (sC.heap.push { cls := .type "dict", data := .dict #[] }) scope.names } : Shared) = sD := ⟨_, rfl⟩
  rw [eD] at JD ⊢
  have tnD : tn 0 sD.heap := T.keep _ _ _ tnC fun b _ o e => by
    rw [← eD]
    exact pushCells_keeps _ _ _ _ (Heap.get?_push_of_some _ e)
  have noF : ∀ b ∈ fp, HC b = none := fun b hb => (fpC b hb).1.1
  -- what the cells hold, wherever the block is
  have capY : ∀ {σ8 : L2.St}, wipe σ8 (own.map (·.2)) = wipe σ (own.map (·.2)) → ∀ pins' H' s', Inv (X.blk sC HC scope ce fp) pins' σ8 H' s' → Cap X.N X.env.scope X.env.cells σ8 H' s'.heap := fun {σ8} hw pins' H' s' J' => by
    refine ((Cap.of JC).un J'.base fun y c e hm => (fpC c hm).1.2.2.2.2.1 y c e rfl).weak ?_ fun i y v e1 e2 e3 => ?_
    · have := congrArg List.length hw
      rwa [wipe_length, wipe_length] at this
    · have ni : i ∉ own.map (·.2) := fun z => by
        obtain ⟨p, hp, rfl⟩ := List.mem_map.mp z
        have := ok.ix p hp
        rw [e1] at this
        exact hown p hp ((Option.some.inj this) ▸ e2)
      have k1 := wipe_keep e3 ni
      rw [hw] at k1
      exact (wipe_some k1).1
  have fpY : ∀ {σ' : L2.St} {H' : Hp} {s' : Shared}, Inv (X.blk sC HC scope ce fp) [] σ' H' s' → (∀ b ∈ fp, H' b = none) → ∀ b ∈ fp, FpOk (X.blk sC HC scope ce fp) [] H' b := fun {σ' H' s'} J' hn b hb => by
    refine ⟨hn b hb, (J'.ok.exf b hb).1, J'.ok.exfs b hb, .inl hb, fun x c e => (J'.ok.exf b hb).2 x c e, fun p hp => ?_⟩
    exact absurd (show p ∈ ([] : List (Addr × Obj)) ++ [] from hp) (by simp)
  refine (fun loop => codeAny_compStart_list loop (T.self X.A 0 _ _ _ tnD loop)) ?_
  refine compLoop_any (fun n s' => ∃ i H', Inv (X.blk sC HC scope ce fp) [] (wipe σ (own.map (·.2))) H' s' ∧ tn i s'.heap ∧ (∀ b ∈ fp, H' b = none) ∧ Wt i n H') ?_ m0 ⟨0, HC, JD, tnD, noF, w0⟩
  rintro n s5 ⟨i, H5, J5, tn5, n5, w5⟩
  rcases turn i n H5 w5 with ⟨stop, hq⟩ | ⟨go, Nx, hNx, step⟩
  · refine thnF (T.done (X.blk sC HC scope ce fp) rfl rfl rfl cal i [] s5 _ H5 (fun _ _ => False) J5 (fpY J5 n5) tn5 stop) fun r s6 ⟨hr, J6⟩ => ?_
    subst hr
    have J7 : Inv X pins σ H5 s6 := JC.call' (ch := fp) J6.os J6.base J6.hok J6.bare fun b hb => by
      obtain ⟨⟨_, a1, _, a3, a4, a5⟩, _⟩ := fpC b hb
      exact ⟨a3, a1, a4, a5⟩
    have nC : H5 sC.heap.objs.size = none := by
      rw [← cL]
      exact J6.free
    obtain ⟨m, hm, _⟩ := J6.loc
    have hm : s6.heap.Ns ce.locals m := hm
    rw [cL] at hm
    exact last D sC.heap.objs.size s6 m H5 J7 hq hm (JC.fpOk (Nat.le_refl _) nC)
  · refine thnF (T.item (X.blk sC HC scope ce fp) rfl rfl rfl cal i [] s5 _ H5 (fun _ _ => False) J5 (fpY J5 n5) tn5 go) fun r s6 ⟨u, hr, h6⟩ => ?_
    subst hr
    refine thnF h6 fun _ s7 ⟨x, H7, J7, r7, y7, tn7, n7⟩ => ?_
    have J7p := J7.pinned (fpY J7 n7) (T.obj _ _ tn7)
    refine thnF (pg.run _ s7 _ H7 x u _ J7p r7 (step x H7 y7)) fun _ s8 ⟨σ8, H8, J8, hw8, q8⟩ => ?_
    refine thnF (pt.run _ s8 σ8 H8 _ J8 q8) fun b s9 ⟨H9, J9, q9⟩ => ?_
    have next : ∀ {s' : Shared} {H' : Hp}, Inv (X.blk sC HC scope ce fp) ([] ++ pinsAt fp s7.heap) σ8 H' s' → Nx H' →
        ∃ m, m < n ∧ ∃ i H', Inv (X.blk sC HC scope ce fp) [] (wipe σ (own.map (·.2))) H' s' ∧ tn i s'.heap ∧ (∀ b ∈ fp, H' b = none) ∧ Wt i m H' := fun {s' H'} J' nx => by
      obtain ⟨m', lt, w'⟩ := hNx H' nx
      have kept : ∀ b ∈ fp, ∀ o, s7.heap.get? b = some o → s'.heap.get? b = some o ∧ H' b = none := fun b hb o e => by
        obtain ⟨a1, a2, _⟩ := J'.pin (b, o) (List.mem_append_right _ (List.mem_append_right _ (mem_pinsAt hb e)))
        exact ⟨a1, a2⟩
      have el : (wipe σ (own.map (·.2))).length = σ8.length := by
        rw [← hw8, wipe_length]
      refine ⟨m', lt, i + 1, H', (J'.unpinned (pins := [])).weak el fun j v e => ?_, T.keep _ _ _ tn7 fun b hb o e => (kept b hb o e).1, fun b hb => ?_, w'⟩
      · rw [← hw8] at e
        exact (wipe_some e).1
      · obtain ⟨o, e, _⟩ := T.obj _ _ tn7 b hb
        exact (kept b hb o e).2
    cases b with
    | false => exact next J9 q9
    | true =>
      refine thnF (pe.run _ s9 σ8 H9 _ J9 (capY hw8) q9) fun z s10 ⟨yv, H10, J10, r10, acc, hD10, hz10, nx⟩ => ?_
      exact app_ok (X := X.blk sC HC scope ce fp) J10 hD10 hz10 r10 fun s11 J11 => next J11 nx
/-- as a value -/
theorem lc_cap {X : Cx} {elt tg iter : Expr} {ifs : List Expr} {scope : Scope} {own : List (Str × Nat)} {pos : Pos} {wi : TI} {g : TG} {tt : TT} {te : TE}
    (cal : X.calm = true) (hN : X.N.Nodup) (hi : PI X tg iter wi) (ok : BlkOk X.N X.env.scope scope own) (hown : ∀ p ∈ own, X.env.scope.names.lookup p.1 ≠ some .cell)
    (pgs : ∀ (s : Shared) (H : Hp) (C : Addr) (cl : List (Str × Addr)) (fp : List Addr),
      PG (X.blk s H scope (compEnvC scope cl C X.env) fp) tg g)
    (pts : ∀ (s : Shared) (H : Hp) (C : Addr) (cl : List (Str × Addr)) (fp : List Addr),
      PTs (X.blk s H scope (compEnvC scope cl C X.env) fp) ifs tt)
    (pes : ∀ (s : Shared) (H : Hp) (C : Addr) (cl : List (Str × Addr)) (fp : List Addr),
      PEc (X.blk s H scope (compEnvC scope cl C X.env) fp) X.env.scope X.env.cells elt te)
    (hs : ∀ x, foldedSetIterable iter X.env x = pure x) :
    PE X (.ListComp elt [⟨tg, iter, ifs, 0⟩] scope pos) (tLc wi g tt te (own.map (·.2))) := by
  refine ⟨fun pins s σ H Q J h => ?_⟩
  rw [eval_ListComp]
  refine cap_core J cal hN hi ok hown pgs pts pes hs h fun D C s' m H' J' hq hm f => ⟨m, hm, fun h'' sb => ?_⟩
  obtain ⟨f0, f1, f2, f3, f4, f5⟩ := f
  exact ⟨.ref D, H', J'.turned (t' := s'.toks) (fun b o hb e => (sb.2 b hb).trans e) f0 f1 f3 f4 f5, rfl, hq⟩
end DD
namespace DD
open PySem PySem.Spec PyProof.Rows L2
theorem lams_nil {P : Program} {w : World} {K : PySem.W.Frag} {mg : Str → Option Value} {base : Heap} {N : List Str} {sc : Scope} {cl : List (Str × Addr)} {j : Nat} : LamsOk P w K mg base N sc cl j [] := fun i k tb h => by
  cases i <;> cases h
theorem lams_cons {P : Program} {w : World} {K : PySem.W.Frag} {mg : Str → Option Value} {base : Heap} {N : List Str} {sc : Scope} {cl : List (Str × Addr)} {j : Nat} {k : LamK} {tb : DE} {Λ : List (LamK × DE)} (G : lamB N sc k = true) (B : LamBind k)
    (h : ∀ (q : Str) (A : Around) (outer : List Env) (s : Shared) (H : Hp) (E : XK) (f c' : Addr), Room j (A.deeper (lamE q cl k.scope s.heap.objs.size f c')) →
      Takes (lamC P w K mg base N q cl A outer s H E k.scope f c') (WF E) → PEd (lamC P w K mg base N q cl A outer s H E k.scope f c') (WF E) k.body tb) (t : LamsOk P w K mg base N sc cl j Λ) : LamsOk P w K mg base N sc cl j ((k, tb) :: Λ) := fun i k' tb' e => by
  cases i with
  | zero =>
    cases e
    exact ⟨lamG_of G, B, h⟩
  | succ i => exact t i k' tb' e
theorem dlcF {X : Cx} {W : WX} {P g : Addr} {cl : List (Str × Addr)} {Λ : List (LamK × DE)} {jr : Nat} (i : Nat) {x a y : Str} {fd : FuncData} {st0 : Stmt} {Ng : List Str} {tF : DE → DS} {tg iter : Expr} {scope : Scope} {it : DI} {gt : DG} {p py pos pos' : Pos} (own : List (Str × Nat))
    (hN : X.N.Nodup) (hi : PId X W tg iter it) (ok : BlkOk X.N X.env.scope scope own) (hown : ∀ p ∈ own, X.env.scope.names.lookup p.1 ≠ some .cell)
    (hgt : ∀ (s : Shared) (H : Hp) (C : Addr) (cl : List (Str × Addr)) (fp : List Addr), PGw (X.blk s H scope (compEnvC scope cl C X.env) fp) (own.map (·.2)) tg gt)
    (hcl : X.env.cells = cl) (Fg : Fun X.K x x st0 g fd) (Sg : FnScope Ng [a] (defScope st0)) (hm : X.mg x = some (.ref g)) (hb : Binds X.K fd [a] []) (hr : Room (jr + 2) X.A) (L : LamsOk X.prog X.w X.K X.mg X.base X.N X.env.scope cl jr Λ)
    (hF : ∀ (cdv : Value) (A : Around) (outer : List Env) (s : Shared) (H : Hp) (E : XK) (act : DE), Room (jr + 1) (A.deeper (envOfC x (defScope st0) s.heap.objs.size g cdv)) → Takes (cxD X.prog X.w X.K X.mg X.base Ng x (defScope st0) g cdv A outer s H E) (WF E) →
      PassesOwn (model X.prog X.w) (cxD X.prog X.w X.K X.mg X.base Ng x (defScope st0) g cdv A outer s H E).A (cxD X.prog X.w X.K X.mg X.base Ng x (defScope st0) g cdv A outer s H E).env (cxD X.prog X.w X.K X.mg X.base Ng x (defScope st0) g cdv A outer s H E).xe →
      (∀ (V : WX) (pn : List (Addr × Obj)) (xe : Value → Shared → Prop) (p1 p2 : Pos), Takes ((cxD X.prog X.w X.K X.mg X.base Ng x (defScope st0) g cdv A outer s H E).tr pn xe) V → PEd ((cxD X.prog X.w X.K X.mg X.base Ng x (defScope st0) g cdv A outer s H E).tr pn xe) V (.Call (.Name a p1) [] [] p2) act) →
      PBd (cxD X.prog X.w X.K X.mg X.base Ng x (defScope st0) g cdv A outer s H E) (WF E) (defBody st0) (tF act))
    (hgl : ∀ (s : Shared) (H : Hp) (C : Addr) (cl : List (Str × Addr)) (fp : List Addr), Gl (X.blk s H scope (compEnvC scope cl C X.env) fp) x)
    (hvy : ∀ (s : Shared) (H : Hp) (C : Addr) (cl : List (Str × Addr)) (fp : List Addr), Vis (X.blk s H scope (compEnvC scope cl C X.env) fp).env.scope y)
    (hst : ∀ (s : Shared) (H : Hp) (C : Addr) (cl : List (Str × Addr)) (fp : List Addr), starEach [.Name y py] (X.blk s H scope (compEnvC scope cl C X.env) fp).env = (false, eval (.Name y py) (X.blk s H scope (compEnvC scope cl C X.env) fp).env) :: starEach [] (X.blk s H scope (compEnvC scope cl C X.env) fp).env)
    (hpl : ∀ (s : Shared) (H : Hp) (C : Addr) (cl : List (Str × Addr)) (fp : List Addr), (backTo pos (starEach [] (X.blk s H scope (compEnvC scope cl C X.env) fp).env)).any (·.1) = false)
    (hNy : X.N[i]? = some y := by rfl) (hN0 : Ng[0]? = some a := by rfl) (hva : Vis (defScope st0) a := by first | exact Or.inl rfl | exact Or.inr (Or.inl rfl))
    (d1 : (x == ("__debug__" : Str)) = false := by decide) (d2 : (a == ("__debug__" : Str)) = false := by decide) (d3 : (a == ("__classdict__" : Str)) = false := by decide) (d4 : (y == ("__debug__" : Str)) = false := by decide) (d5 : (y == ("__classdict__" : Str)) = false := by decide)
    (hc : X.calm = true := by rfl) (hs : ∀ x, foldedSetIterable iter X.env x = pure x := by intro _; rfl) :
    PEd X W (.ListComp (.Call (.Name x p) [.Name y py] [] pos) [⟨tg, iter, [], 0⟩] scope pos') (dLc it gt dYes (dFail P cl Λ tF Ng.length i) (own.map (·.2))) := by
  subst hcl
  refine PE.imp (lc_cap hc hN hi ok hown hgt (fun _ _ _ _ _ => tsnil) (fun s H C cl fp => ?_) hs) low_lc
  exact lamcall (Y := X.blk s H scope (compEnvC scope cl C X.env) fp) (W := W0) Fg Sg hm hb hr takes0 L hF hN0 hva (hgl s H C cl fp) hNy (hvy s H C cl fp) d1 d2 d3 d4 d5 (hst s H C cl fp) (hpl s H C cl fp)
end DD
namespace DD
open PySem PySem.Spec PyProof.Rows L2
theorem cx_none {P : Program} {w : World} {H : Hp} {s : Shared} {e : Value} {s' : Shared} (h : L2.CX P w [] H s (fun _ _ _ => False) e s') : False := by
  obtain ⟨_, _, _, _, _, _, _, _, _, _, _, _, z⟩ := h
  exact z
end DD
namespace DD
open PySem PySem.Spec PyProof.Rows L2
section
variable {K : PySem.W.Frag} {C D : Addr} {f : Str}
theorem na_of (h : PySem.W.findIn K (.ref C) f = some none) : NoAttr K C f := h
theorem kit_same : PySem.W.kitOne K (.ref C) (.ref C) = some true := by
  unfold PySem.W.kitOne
  rw [if_pos (by exact beq_self_eq_true _)]
theorem kit_ne {t c : Value} (h : (t == c) = false) : PySem.W.kitOne K t c = PySem.W.kitCls K t c := by
  unfold PySem.W.kitOne
  rw [h]
  rfl
theorem kit_cr {t : Value} {x : ClassData} {b : Bool} (ne : (t == Value.ref C) = false) (c : PySem.W.clsIn K C = some x) (ty : PySem.W.typeIn K (.ref C) = some (.type "type")) (s : PySem.W.subIn K t (.ref C) = some b) : PySem.W.kitOne K t (.ref C) = some b := by
  rw [kit_ne ne]
  unfold PySem.W.kitCls
  dsimp only
  rw [c, ty, if_pos (by rfl), s]
theorem kit_ct {T : String} {b : Bool} (m : PySem.W.kitMeta T = true) (s : PySem.W.subIn K (.ref C) (.type T) = some b) : PySem.W.kitOne K (.ref C) (.type T) = some b := by
  rw [kit_ne (by rfl)]
  unfold PySem.W.kitCls
  dsimp only
  rw [if_pos m, s]
theorem exm_of {cls : Value} {b : Bool} (h1 : PySem.W.subIn K (.ref C) (.type "BaseException") = some true) (hd : PySem.W.hasDictIn K C = true) (ty : PySem.W.typeIn K (.ref C) = some (.type "type")) (s : PySem.W.subIn K cls (.ref C) = some b) : PySem.W.exmOne K cls (.ref C) = some b := PySem.W.exm_ref h1 hd ty s
theorem nec_of {fa : Addr} {nm q : Str} {N : Addr} {bs : List Value} {hdct : Bool} {sn sub ab col dd k0 k1 k2 k3 k5} {newId : String} {o : Obj}
    (l : K.lookup C = some (excClassObj nm q C N bs [.type "object"] hdct sn sub ab col dd k0 k1 k2 k3 k5 newId)) (n : PySem.W.nsOkIn K N = true) (e : PySem.W.nsIn K N "__eq__" = some (some (.ref fa))) (ne : PySem.W.nsIn K N "__ne__" = some none) (lf : K.lookup fa = some o) (c : o.cls = .type "function") : NeC K C fa :=
  ⟨⟨_, _, _, _, _, _, _, _, _, _, _, _, _, _, _, _, l, n, e, ne⟩, ⟨_, lf, c⟩⟩
theorem fund_mk {x qual : Str} {params : Arguments} {body : List Stmt} {scope : Scope} {dvs : List V} {oc : Value} {od an : Option Addr} {kV doc pm cdv ct oc' : Value} {od' : Option Addr} {T : Addr} {n : Nat} {osl osl' : Array (Option Value)} {its : List Value} {fa : Addr}
    (l : K.lookup fa = some ⟨oc, od, .func (PySem.W.fnOf x qual params body scope (.ref T) kV doc pm an cdv ct), osl⟩) (c : PySem.W.codeIn K cdv qual = true) (lt : K.lookup T = some ⟨oc', od', .seq its.toArray n, osl'⟩) (k : PySem.W.keepIn K (.ref fa) = true) (ne : dvs ≠ []) (v : Vals dvs its) :
    FunD K x qual params body scope dvs [] fa (PySem.W.fnOf x qual params body scope (.ref T) kV doc pm an cdv ct) := ⟨⟨oc, od, _, kV, doc, pm, an, cdv, ct, osl, rfl, l, c, .inr ⟨ne, T, _, its, n, rfl, lt, rfl, v⟩, .inl rfl⟩, k⟩
theorem oex_of {nm q : Str} {N : Addr} {bs bm : List Value} {sn sub ab col dd k0 k1 k2 k3 k5} (l : K.lookup C = some (excClassObj nm q C N bs bm true sn sub ab col dd k0 k1 k2 k3 k5 "ValueError.__new__")) (r : PySem.HandSPX.refsVE bm = true)
    (sa : PySem.W.findIn K (.ref C) "__setattr__" = some (some (.builtin "object.__setattr__"))) (e : PySem.W.subIn K (.ref C) (.type "BaseException") = some true) (t : PySem.W.typeIn K (.ref C) = some (.type "type")) (k : PySem.W.keepIn K (.ref C) = true) : OexC K C :=
  ⟨⟨_, _, _, _, _, _, _, _, _, _, _, _, _, _, _, l, r⟩, sa, e, t, k⟩
end
end DD
namespace DD
open PySem PySem.Spec PyProof.Rows L2
abbrev qLam (x : Str) : Str := (x ++ ".<locals>.") ++ "<lambda>"
section
variable {P : Program} {w : World} {K : PySem.W.Frag} {mg : Str → Option Value} {base : Heap}
theorem fn_lowL {x qual : Str} {st : Stmt} {f c : Addr} {fd : FuncData} {N ps : List Str} {k : Nat} {ct : Ct} (t : List (Str × Addr) → DS) (F : Fun K x qual st f fd) (hfc : fd.code = .ref c) (S : FnScope N ps (defScope st)) (len : ∀ ss st ok ex, ct ss st ok ex → ss.length = ps.length)
    (hsem : ∀ cl ss st ok ex, ct ss st ok ex → t cl (ss ++ List.replicate (N.length - ss.length) .un) st (endsOf ok ex))
    (hbody : ∀ (A : Around) (outer : List Env) (s : Shared) (H : Hp) (E : XK) (cl : List (Str × Addr)), Room k (A.deeper (envOfC qual (defScope st) s.heap.objs.size f (.ref c))) → Takes (cxD P w K mg base N qual (defScope st) f (.ref c) A outer s H E) (WF E) →
      PassesOwn (model P w) (cxD P w K mg base N qual (defScope st) f (.ref c) A outer s H E).A (cxD P w K mg base N qual (defScope st) f (.ref c) A outer s H E).env (cxD P w K mg base N qual (defScope st) f (.ref c) A outer s H E).xe →
      (cxD P w K mg base N qual (defScope st) f (.ref c) A outer s H E).env.cells = cl → PBd (cxD P w K mg base N qual (defScope st) f (.ref c) A outer s H E) (WF E) (defBody st) (t cl)) :
    FnOk P w K mg base (L2.CX P w) (k + 1) f fd ps (lowF K ct) := by
  obtain ⟨oc, od, kV, doc, pm, an, cdv, cv, osl, rfl, lk, hcd⟩ := F.ex
  have ec : cdv = .ref c := hfc
  subst ec
  refine fn_of lk hcd S (fun vs H Q E h => ?_) fun A outer s H vs Q E hr h => ?_
  · obtain ⟨ss, st, I, ok, ex, wd, iv, h, _⟩ := h
    rw [← paired_len iv]
    exact len _ _ _ _ h
  · obtain ⟨ss, st0, I, ok, ex, wd, iv, h, cn, cx⟩ := h
    refine ⟨_, hbody A outer s H E _ hr (takes_of rfl rfl rfl rfl) (passes_of rfl) rfl, ?_⟩
    refine lowS_go wd (sl_start iv) (hsem _ _ _ _ _ h) ⟨?_, ?_, ?_, ?_, ?_⟩
    · rintro Δ st' σ' I' H' ⟨st'', hs, h'⟩ w' s' l'
      exact cn _ _ _ _ _ h' (wd_drop w' hs) (stp_drop s' hs) (.dat .non)
    · rintro s st' v I' H' ⟨s', st'', hf, h'⟩ w' sp i'
      obtain ⟨I2, w2, s2, i2⟩ := fin_ok w' sp i' hf
      exact cn _ _ _ _ _ h' w2 s2 i2
    · intro _ _ _ _ _ h'
      exact h'.elim
    · intro _ _ _ _ _ h'
      exact h'.elim
    · rintro x Δ' st' cls d σ' I' H' ⟨st'', hs, h'⟩ w' sp l' xi
      exact cx x st'' cls d I' H' h' (wd_drop w' hs) (stp_drop sp hs) xi
end
theorem law_inT {K : PySem.W.Frag} {ct : Ct} {H : Hp} {a T : Addr} {q : Str} {ns : List Int} (hS : SqL K H a (ns.map V.int)) (hT : H T = some (.tbl #[])) (c : ct [.dat (.fls (ns.map Dt.int))] [(T, Ob.tbl q [] [])] (fun s _ => s = .dat (.bl true)) (fun _ _ => False)) :
    lowF K ct [.ref a] H (fun v _ => v = .bl true) fun _ _ _ => False := by
  have hd : ∀ (I : Hp) (ns : List Int), IsDs K I (ns.map Dt.int) (ns.map V.int) := fun I ns => by
    induction ns with
    | nil => exact .nil
    | cons n ns ih => exact .cons (.int n) ih
  obtain ⟨I, hI⟩ : ∃ I : Hp, I = fun b => if b = T then none else H b := ⟨_, rfl⟩
  have i1 : I T = none := by
    rw [hI]
    exact if_pos rfl
  have i2 : ∀ b, b ≠ T → I b = H b := fun b z => by
    rw [hI]
    exact if_neg z
  have hS2 : SqL K I a (ns.map V.int) := by
    refine hS.imp (fun r => ?_) id
    have nT : a ≠ T := fun z => by
      rw [z] at r
      rcases r with r | ⟨o, r⟩ <;> rw [hT] at r <;> cases r
    exact r.imp (fun e => (i2 a nT).trans e) fun ⟨o, e⟩ => ⟨o, (i2 a nT).trans e⟩
  refine ⟨_, [(T, Ob.tbl q [] [])], I, _, _, ⟨fun b o h => ?_, fun p ob h => ?_, ?_⟩, .cons (.dat (.fls hS2 (hd I ns))) .nil, c, ?_, ?_⟩
  · by_cases z : b = T
    · rw [z, i1] at h
      cases h
    · exact .inl ((i2 b z).symm.trans h)
  · rw [List.mem_singleton] at h
    cases h
    refine ⟨i1, _, hT, .tbl True.intro (fun p cv hc => ?_) rfl fun i s hs => ?_⟩
    · have hc : codeAmong p [] = some cv := hc
      simp [codeAmong] at hc
    · cases i <;> cases hs
  · exact List.nodup_cons.mpr ⟨List.not_mem_nil, List.nodup_nil⟩
  · intro s st' v I' H' h w' s' i'
    subst h
    cases i' with
    | dat z => cases z; rfl
  · intro x st' cls d I' H' h
    exact h.elim
theorem law_at {l : PySem.W.OpenLaw} {w : World} {K : PySem.W.Frag} {mg : Str → Option Value} {fa c T : Addr} {h : Heap} {k : Nat} {x q : Str} {ct : Ct} (nT : K.lookup T = none) (hT : h.get? T = some { cls := .none, data := .fields #[] }) (hc : PySem.W.CodeHd h c T)
    (e : ∃ fd : FuncData, (∀ (s : Shared) (u : Value), BindsTo s fd ⟨[u], []⟩ [(x, u)]) ∧ ∀ base : Heap, K.In base → base.Ns mainGlobals mg → LamX.TabB base mg c T → FnOk l.prog w K mg base (L2.CX l.prog w) k fa fd [x] (lowF K ct))
    (hct : ∀ ns : List Int, ns.length ≤ 63 → ct [.dat (.fls (ns.map Dt.int))] [(T, Ob.tbl q [] [])] (fun s _ => s = .dat (.bl true)) (fun _ _ => False)) : LamX.LawAtS l w K (L2.CX l.prog w) k 63 x mg fa h := by
  obtain ⟨fd, hb, hF⟩ := e
  refine ⟨fd, [(c, T)], lowF K ct, fun p hp => ?_, fun p hp => ?_, fun p hp => ?_, hb, fun H a ns hl _ hH hS => law_inT hS (hH (c, T) List.mem_cons_self) (hct ns hl), fun base X G hp => hF base X G (hp (c, T) List.mem_cons_self)⟩ <;> rw [List.mem_singleton.mp hp]
  · exact hT
  · exact nT
  · exact hc
end DD
namespace DD
open PySem PySem.Spec PyProof.Rows L2
namespace LP
def nth (b : List Stmt) (i : Nat) : Stmt := b.getD i (.Pass ⟨0, 0, 0, 0⟩)
def body : Stmt → List Stmt
  | .For (body := b) .. => b
  | .While (body := b) .. => b
  | .If (body := b) .. => b
  | _ => []
def val : Stmt → Expr
  | .Assign (value := e) .. => e
  | .Expr (value := e) .. => e
  | .Return (value := some e) .. => e
  | _ => .Constant .none 0 ⟨0, 0, 0, 0⟩
def elt : Expr → Nat → Expr
  | .List (elts := es) .., i => es.getD i (.Constant .none 0 ⟨0, 0, 0, 0⟩)
  | .Tuple (elts := es) .., i => es.getD i (.Constant .none 0 ⟨0, 0, 0, 0⟩)
  | e, _ => e
def bl : Expr → Expr
  | .BinOp (left := e) .. => e
  | e => e
def arg : Expr → Nat → Expr
  | .Call (args := es) .., i => es.getD i (.Constant .none 0 ⟨0, 0, 0, 0⟩)
  | e, _ => e
def lam : Expr → LamK
  | .Lambda p b s _ => ⟨p, b, s⟩
  | e => ⟨⟨[], [], none, [], [], none, []⟩, e, ⟨.function, [], false, false, []⟩⟩
end LP
def ctLawT (T : Addr) : Ct := fun ss st ok _ => ∃ ns : List Int, ss = [.dat (.fls (ns.map Dt.int))] ∧ ns.length ≤ 63 ∧ st = [(T, Ob.tbl (qLam "law") [] [])] ∧ ok (.dat (.bl true)) []
end DD
namespace DD
open PySem PySem.Spec PyProof.Rows L2
def gRepL : G2 := fun x y st ok => match x, y with
  | .dat (.lst ds), .dat (.int k) => 0 ≤ k ∧ k ≤ 1000 ∧ ds.length ≤ 1000 ∧ ok (.dat (.lst (List.replicate k.toNat ds).flatten)) st
  | _, _ => False
theorem lr_repL {K : PySem.W.Frag} : LR2 K rRep gRepL := by
  intro x y st I H ok Q v w wd ix iy h c
  cases ix with
  | own p => exact h.elim
  | dat hx =>
    cases hx with
    | lst a b =>
      cases iy with
      | own p => exact h.elim
      | dat hy =>
        cases hy with
        | int k =>
          obtain ⟨h1, h2, h3, h⟩ := h
          have el := isDs_len b
          refine ⟨_, k, _, rfl, rfl, wd.sub.at a (by intro k z; cases z) (by intro k z; cases z), by omega, by omega, ?_, fun p hp => ?_⟩
          · rw [← el, sizeLine_eq]
            have := Nat.mul_le_mul h3 (show k.toNat ≤ 1000 by omega)
            omega
          · obtain ⟨w2, s2⟩ := new_known wd hp
            exact c _ _ _ _ _ h w2 s2 (.dat (.lst upd_same ((isDs_rep b _).mono (Ex.new (wd.sub.none hp)))))
        | _ => exact h.elim
    | _ => exact h.elim
end DD
namespace DD
open PySem PySem.Spec PyProof.Rows L2
end DD
namespace DD
open PySem PySem.Spec PyProof.Rows L2
end DD
namespace DD
open PySem PySem.Spec PyProof.Rows L2
end DD
namespace DD
open PySem PySem.Spec PyProof.Rows L2
namespace LP
def cl : Expr → Expr
  | .Compare (left := e) .. => e
  | e => e
def un : Expr → Expr
  | .UnaryOp (operand := e) .. => e
  | e => e
end LP
end DD
namespace DD
open PySem PySem.Spec PyProof.Rows L2
def enumS (ds : List Dt) : List Sv := ds.zipIdx.map fun x => .dat (.tup [.int (x.2 : Nat), x.1])
def dItE (ta : DA) : DI := fun Δ st ok ex => ta Δ st (fun xs st1 => match xs with
  | [.dat (.lst ds)] => ok (enumS ds) st1
  | _ => False) ex
theorem low_itE {K : PySem.W.Frag} {W : WX} {ta : DA} : ∀ σ H R, lowI K (dItE ta) W σ H R → iEnum K (lowA K ta W) σ H R := by
  rintro σ H R ⟨Δ, st, I, ok, ex, wd, sl, h, c, cx⟩
  refine lowA_go wd sl h (fun xs st1 vs I1 H1 h1 w1 s1 i1 => ?_) cx
  split at h1
  · rename_i ds
    obtain ⟨v, rfl, iv⟩ := one_of rfl i1
    cases iv with
    | dat hd =>
      cases hd with
      | @lst _ us a ha hb =>
        have hS : SqL K H1 a us := w1.sub.sl (.inl (.inl ha))
        have hl := paired_len (isDs_pair hb)
        refine ⟨a, us, rfl, hS, c _ _ _ _ _ h1 w1 s1 ⟨fun H => SqL K H a us, YPair (fun i => some (.int (i : Nat))) (fun i => us[i]?), ?_, fun st2 I2 H2 w2 s2 => w2.sub.sl (.inl (.inl (s2.ii _ _ ha))), fun i H2 x H3 st2 I2 hi w2 s2 y => ?_⟩⟩
        · rw [show (enumS ds).length = us.length from by rw [← hl]; simp [enumS]]
          exact walk_enum
        · obtain ⟨T, u1, u2, rfl, hT, rfl, e1, e2⟩ := y
          cases e1
          obtain ⟨d, hd1, hd2⟩ := paired_back (isDs_pair hb) e2
          obtain ⟨w3, s3⟩ := new_known (o := .tup [.int (i : Nat), u2]) w2 hT
          refine ⟨.dat (.tup [.int (i : Nat), d]), _, ?_, w3, s3, .dat (.tup (.inl upd_same) (.cons (.int _) (.cons ((hd2.mono s2.ii).mono (Ex.new (w2.sub.none hT))) .nil)))⟩
          unfold enumS
          rw [List.getElem?_map, List.getElem?_zipIdx, hd1]
          simp
  · exact h1.elim
theorem iE {X : Cx} {W : WX} {e : Expr} {ta : DA} {p pos tpos : Pos} {elts : List Expr} {kk : Nat} (hm : X.mg "enumerate" = none) (ha : PAd X W [e] ta) (hg : Gl X "enumerate" := by rfl) (hs : starEach [e] X.env = [(false, eval e X.env)] := by rfl) :
    PId X W (.Tuple elts kk tpos) (.Call (.Name "enumerate" p) [e] [] pos) (dItE ta) := PI.imp (pi_enum hg hm ha hs) low_itE
end DD
namespace DD
open PySem PySem.Spec PyProof.Rows L2
end DD
namespace DD
open PySem PySem.Spec PyProof.Rows L2
def dStar (te : DE) (t : DA) : DA := fun Δ st ok ex => te Δ st (fun x st1 => match x with
  | .dat (.tup ds) => t Δ st1 (fun ys st2 => ok (ds.map Sv.dat ++ ys) st2) ex
  | .dat (.lst ds) => t Δ st1 (fun ys st2 => ok (ds.map Sv.dat ++ ys) st2) ex
  | _ => False) ex
theorem lowA_star {K : PySem.W.Frag} {W : WX} {te : DE} {t : DA} : ∀ σ H Q, lowA K (dStar te t) W σ H Q → StX.tStar K (low K te W) (lowA K t W) σ H Q := by
  rintro σ H Q ⟨Δ, st, I, ok, ex, wd, sl, h, c, cx⟩
  refine low_go wd sl h (fun x st1 v I1 H1 h1 w1 s1 i1 => ?_) cx
  cases i1 with
  | own p => exact h1.elim
  | dat hd =>
    cases hd with
    | tup a b =>
      refine ⟨_, _, rfl, .inl (w1.sub.st a.st), lowA_go w1 (sl.mono s1.ii) h1 (fun ys st2 vs I2 H2 h2 w2 s2 i2 => ?_) (cx.go s1)⟩
      exact c _ _ _ _ _ h2 w2 (s1.trans s2) (paired_app (isSs_of (b.mono s2.ii)) i2)
    | lst a b =>
      refine ⟨_, _, rfl, .inr (w1.sub.sl (.inl (.inl a))), lowA_go w1 (sl.mono s1.ii) h1 (fun ys st2 vs I2 H2 h2 w2 s2 i2 => ?_) (cx.go s1)⟩
      exact c _ _ _ _ _ h2 w2 (s1.trans s2) (paired_app (isSs_of (b.mono s2.ii)) i2)
    | _ => exact h1.elim
theorem astar {X : Cx} {W : WX} {e : Expr} {es : List Expr} {te : DE} {t : DA} {p : Pos} (he : PEd X W e te) (hr : PAd X W es t) (hs : starEach (.Starred e p :: es) X.env = (true, eval e X.env) :: starEach es X.env := by rfl) : PAd X W (.Starred e p :: es) (dStar te t) := by
  refine ⟨fun pos pins s σ H Q J h => ?_⟩
  exact (StX.pa_star he hr hs).run pos pins s σ H Q J (lowA_star σ H Q h)
end DD
namespace DD
open PySem PySem.Spec PyProof.Rows L2
end DD
namespace DD
open PySem PySem.Spec PyProof.Rows L2
/-- both walks pure: what is made -/
def J2 {α β : Type} (as : List α) (bs : α → List β) (f : α → β → Option Dt) (st : Store) : Nat → List Sv → Store → Prop := fun i acc st' => st' = st ∧ acc = ((as.take i).flatMap fun a => (bs a).filterMap (f a)).map Sv.dat
end DD
namespace DD
open PySem PySem.Spec PyProof.Rows L2
end DD
namespace SP
open PySem PySem.Spec PyProof.Rows L2 DD
section
variable {α : Type} (lt : α → α → Bool)
structure Ord1 : Prop where
  tr : ∀ a b c, lt a b = true → lt b c = true → lt a c = true
  ir : ∀ a, lt a a = false
abbrev Asc (t : List α) : Prop := t.Pairwise fun a b => lt a b = true
variable {lt}
variable (enc : α → PyData)
variable {enc}
end
def strLt (a b : Str) : Bool := decide (a.cps.toList < b.cps.toList)
theorem str_ord : Ord1 strLt where
  tr := fun a b c h k => by
    unfold strLt at *
    exact decide_eq_true (List.lt_trans (of_decide_eq_true h) (of_decide_eq_true k))
  ir := fun a => by
    unfold strLt
    exact decide_eq_false (List.lt_irrefl _)
def nsD (t : List Str) : Dt := .tup (t.map .str)
abbrev ascN (t : List Str) : Prop := Asc strLt t
end SP
namespace DD
open PySem PySem.Spec PyProof.Rows L2
end DD
namespace SP
open PySem PySem.Spec PyProof.Rows L2 DD
structure In (l : Lst) (t : List Str) : Prop where
  asc : ascN t
  mem : ∀ n ∈ t, n ∈ l.map (·.1)
theorem In.look {l : Lst} (hl : LOk l) {t : List Str} (h : In l t) {n : Str} (hn : n ∈ t) : ∃ s, (n, s) ∈ l ∧ SP.look l n = some s := by
  obtain ⟨⟨m, s⟩, hx, rfl⟩ := List.mem_map.mp (h.mem n hn)
  exact ⟨s, hx, hl.get hx⟩
theorem look_in {α : Type} {p : List (Str × α)} {n : Str} {x : α} (h : look p n = some x) : (n, x) ∈ p := by
  unfold look at h
  cases hf : p.find? fun x => decide (x.1 = n) with
  | none => rw [hf] at h; cases h
  | some y =>
    rw [hf] at h
    cases h
    have h1 := List.find?_some hf
    have h2 := List.mem_of_find?_eq_some hf
    rw [← of_decide_eq_true h1]
    exact h2
theorem allD_map (ds : List Dt) : allD? (ds.map Sv.dat) = some ds := by
  induction ds with
  | nil => rfl
  | cons d ds ih =>
    rw [List.map_cons]
    show (allD? (ds.map Sv.dat)).map (d :: ·) = _
    rw [ih]
    rfl
end SP
namespace SP
open PySem PySem.Spec PyProof.Rows L2 DD
end SP
namespace SP
open PySem PySem.Spec PyProof.Rows L2 DD
end SP
namespace UU
open PySem PySem.Spec PyProof.Rows L2 DD
section
variable {P : Program} {w : World} {A : Around} {E : Value → Shared → Prop} {s : Shared}
abbrev TupAt (P : Program) (w : World) (h : Heap) (k : List Key) (b : Addr) : Prop := IsTupleKey (mixKind P w) h k b
abbrev tkh (P : Program) (w : World) (k : List Key) : Int := tupleKeyHash (mixKind P w) k
def Ent (P : Program) (w : World) (Z : List Key → Addr → Prop) (h : Heap) (k : List Key) (e : Int × Value) : Prop := ∃ b, e = (tkh P w k, .ref b) ∧ TupAt P w h k b ∧ Z k b
structure Rws (P : Program) (w : World) (Z : List Key → Addr → Prop) (h : Heap) (a : Addr) (ks : List (List Key)) (es : Array (Int × Value)) (ep : Nat) (t : SetTable) : Prop where
  obj : ∃ o, h.get? a = some o ∧ o.ExactSet ∧ o.data = .set es ep t
  ent : Paired (Ent P w Z h) ks es.toList
  tab : TabOk t (ks.map (tkh P w))
  nd : ks.Nodup
  room : ks.length * 5 < t.mask * 3
  few : ks.length < 64
variable {Z : List Key → Addr → Prop} {a : Addr} {ks : List (List Key)} {es : Array (Int × Value)} {ep : Nat} {t : SetTable}
theorem ents_size {h : Heap} (r : Paired (Ent P w Z h) ks es.toList) : es.size = ks.length := by
  rw [paired_len r, Array.length_toList]
theorem fits_of {n m : Nat} (hd : t.dummies = #[]) (hp : t.place.size = n) (hm : n ≤ t.mask) : t.fits n = true := by
  unfold SetTable.fits SetTable.fill
  rw [hd, Bool.and_eq_true, beq_iff_eq, decide_eq_true_eq]
  show t.place.size = n ∧ t.place.size + 0 ≤ t.mask
  omega
theorem Rws.pl (R : Rws P w Z s.heap a ks es ep t) : t.place.size = ks.length := by
  rw [R.tab.sz, List.length_map]
theorem Rws.fits (R : Rws P w Z s.heap a ks es ep t) : t.fits es.size = true := by
  have := R.room
  have := ents_size R.ent
  exact fits_of (m := 0) R.tab.dm (by rw [R.pl]; omega) (by omega)
theorem Rws.at (R : Rws P w Z s.heap a ks es ep t) {i : Nat} {k : List Key} (h : ks[i]? = some k) : ∃ b, es[i]? = some (tkh P w k, .ref b) ∧ TupAt P w s.heap k b := by
  obtain ⟨e, he, b, rfl, hb⟩ := DD.paired_at R.ent h
  exact ⟨b, by rw [← Array.getElem?_toList]; exact he, hb.1⟩
end
end UU
namespace UU
open PySem PySem.Spec PyProof.Rows L2 DD
end UU
namespace UU
open PySem PySem.Spec PyProof.Rows L2 DD
end UU
namespace UU
open PySem PySem.Spec PyProof.Rows L2 DD
/-- at a stands the set of the tuples L (address and what is in it) -/
def Stands (P : Program) (w : World) (L : List (Addr × List Key)) (h : Heap) (a : Addr) : Prop := ∃ (es : Array (Int × Value)) (ep : Nat) (t : SetTable), (∃ o, h.get? a = some o ∧ o.ExactSet ∧ o.data = .set es ep t) ∧ es.toList = L.map (fun p => (tkh P w p.2, Value.ref p.1)) ∧
  TabOk t (L.map fun p => tkh P w p.2) ∧ (L.map (·.2)).Nodup ∧ L.length * 5 < t.mask * 3 ∧ L.length < 64
def SetU (P : Program) (w : World) (a : Addr) (L : List (Addr × List Key)) : HO := .ext fun h => Stands P w L h a
end UU
namespace UU
open PySem PySem.Spec PyProof.Rows L2 DD
end UU
namespace DD
open PySem PySem.Spec PyProof.Rows L2 UU
section
variable {K : PySem.W.Frag} {W : WX} {st : Store} {I H : Hp}
/-- the set at D, beside the world -/
structure Beside (P : Program) (w : World) (D : Addr) (L : List (Addr × List Key)) (st : Store) (I H : Hp) : Prop where
  nk : D ∉ keys st
  ni : I D = none
  at_ : H D = some (SetU P w D L)
  tup : ∀ p ∈ L, I p.1 = some (.tup (p.2.map kV))
theorem Beside.go {P : Program} {w : World} {D : Addr} {L : List (Addr × List Key)} {st' : Store} {I' H' : Hp} (b : Beside P w D L st I H) (s : Stp st I H st' I' H') : Beside P w D L st' I' H' where
  nk := fun h => by
    rcases s.ks D h with z | z
    · exact b.nk z
    · rw [b.at_] at z; cases z
  ni := by
    cases e : I' D with
    | none => rfl
    | some o =>
      exfalso
      rcases s.nw D (by rw [e]; exact fun z => by cases z) with z | z | z | ⟨vs, z⟩
      · exact z b.ni
      · rw [b.at_] at z; cases z
      · exact b.nk z
      · rw [b.at_] at z; cases z
  at_ := s.hh D _ b.nk b.at_
  tup := fun p hp => s.ii _ _ (b.tup p hp)
end
end DD
namespace DD
open PySem PySem.Spec PyProof.Rows L2 UU
end DD
namespace DD
open PySem PySem.Spec PyProof.Rows L2
end DD
namespace SP
open PySem PySem.Spec PyProof.Rows L2 DD
abbrev wn (b : Bk) (l : Lst) : List Str := (wished b l).map (·.n)
theorem win_names (b : Bk) (l : Lst) : (windows b l).map (·.1) = wn b l := by
  unfold windows wn
  rw [List.map_map]
  rfl
theorem wn_nd {b : Bk} {l : Lst} (hl : LOk l) : (wn b l).Nodup := by
  have h := windows_nd (b := b) hl
  have e : ((wished b l).filterMap fun x => some ((Sum.inr x.n : Key), winD x.win)).map (·.1) = (wn b l).map fun n => (Sum.inr n : Key) := by
    rw [show (fun x : Wi => some ((Sum.inr x.n : Key), winD x.win)) = some ∘ fun x => ((Sum.inr x.n : Key), winD x.win) from rfl, List.filterMap_eq_map, List.map_map, List.map_map]
    rfl
  rw [e] at h
  exact (List.pairwise_map.mp h).imp fun {a b} k z => k (by rw [z])
theorem win_is {b : Bk} {l : Lst} (hl : LOk l) {w : Wi} (hw : w ∈ wished b l) : winOf (windows b l) w.n = w.win := by
  have nd : ((windows b l).map (·.1)).Nodup := by rw [win_names]; exact wn_nd hl
  have hm : (w.n, w.win) ∈ windows b l := List.mem_map.mpr ⟨w, hw, rfl⟩
  unfold winOf
  rw [look_mem nd hm]
  rfl
end SP
namespace SP
open PySem PySem.Spec PyProof.Rows L2 DD
def Quiet (b : Bk) (l : Lst) (p : Plan) : Prop := ∀ x ∈ p, ∀ y ∈ p, y.1 ≠ x.1 → epAt l y.1 ≠ epAt l x.1 ∧ ¬ (y.2 = x.2 ∧ overlap (winOf (windows b l) y.1) (winOf (windows b l) x.1) = true)
theorem first_free {ws : List (Str × Win)} {p : Plan} {k : Nat} : ∀ {ns : List Str} {x : Str × Int}, firstFree ws p k ns = some x → onRec ws p x.2 x.1 = []
  | [], x, h => by cases h
  | n :: ns, x, h => by
    unfold firstFree at h
    cases e : freeAt ws p k n with
    | some r =>
      rw [e] at h
      cases h
      unfold freeAt at e
      rw [List.find?_range_eq_some] at e
      cases e2 : onRec ws p (r : Int) n with
      | nil => rfl
      | cons a as =>
        have := e.1
        rw [e2] at this
        cases this
    | none =>
      rw [e] at h
      exact first_free h
theorem Quiet.step {b : Bk} {l : Lst} {k : Nat} {pre : List Ep} {p : Plan} (hl : LOk l) (h : PInv b l k pre p) (q : Quiet b l p) {e : Ep} (he : e ∉ pre) : Quiet b l (takeStep b l k p e) := by
  unfold takeStep
  cases hf : firstFree (windows b l) p k (sendsOf b l e) with
  | none => exact q
  | some z =>
    obtain ⟨h1, _⟩ := first_mem hf
    have hz := first_free hf
    obtain ⟨w', hw', e3, e4⟩ := sends_mem.mp h1
    have ez : epAt l z.1 = e := by rw [← e3, epAt_is hl hw', e4]
    have far : ∀ x ∈ p, epAt l x.1 ≠ epAt l z.1 ∧ ¬ (x.2 = z.2 ∧ overlap (winOf (windows b l) x.1) (winOf (windows b l) z.1) = true) := by
      intro x hx
      obtain ⟨⟨w, hw, e1, e2⟩, _⟩ := h.mem x hx
      refine ⟨fun c => he ?_, fun ⟨c1, c2⟩ => ?_⟩
      · rw [ez, ← e1, epAt_is hl hw] at c
        rw [← c]
        exact e2
      · have : x.1 ∈ onRec (windows b l) p z.2 z.1 := by
          unfold onRec onRecW
          rw [List.mem_filter, List.mem_filter, (sortN_perm _).mem_iff]
          exact ⟨⟨List.mem_map.mpr ⟨x, hx, rfl⟩, decide_eq_true (by rw [look_mem h.nd hx, c1])⟩, c2⟩
        rw [hz] at this
        cases this
    intro x hx y hy hne
    rcases List.mem_append.mp hx with hx | hx
    · rcases List.mem_append.mp hy with hy | hy
      · exact q x hx y hy hne
      · rw [List.mem_singleton.mp hy] at hne ⊢
        obtain ⟨f1, f2⟩ := far x hx
        exact ⟨fun c => f1 c.symm, fun ⟨c1, c2⟩ => f2 ⟨c1.symm, by rw [over_comm]; exact c2⟩⟩
    · rw [List.mem_singleton.mp hx] at hne ⊢
      rcases List.mem_append.mp hy with hy | hy
      · exact far y hy
      · rw [List.mem_singleton.mp hy] at hne
        exact absurd rfl hne
structure Over (pool : List Str) (q : Plan) : Prop where
  nd : (q.map (·.1)).Nodup
  sub : ∀ x ∈ q, x.1 ∈ pool
theorem Over.len {pool : List Str} {q : Plan} (h : Over pool q) : q.length ≤ pool.length := by
  have := h.nd.length_le_of_subset (l₂ := pool) (fun n hn => by
    obtain ⟨x, hx, rfl⟩ := List.mem_map.mp hn
    exact h.sub x hx)
  rwa [List.length_map] at this
end SP
namespace DD
open PySem PySem.Spec PyProof.Rows L2
def gSum : GC := fun xs st ok => match xs with
  | [x] => withL x st fun ys => ∃ ns : List Int, ys = ns.map (fun n => Sv.dat (.int n)) ∧ ok (.dat (.int ns.sum)) st
  | _ => False
theorem ints_of {K : PySem.W.Frag} {I : Hp} : ∀ {ns : List Int} {vs : List V}, IsSs K I (ns.map fun n => Sv.dat (.int n)) vs → vs = ns.map V.int
  | [], _, .nil => rfl
  | n :: ns, _, .cons (.dat (.int _)) t => by rw [List.map_cons, ints_of t]
theorem lc_sum {K : PySem.W.Frag} : LRC (K := K) (rSum K) gSum := by
  intro xs st I H ok Q vs wd ix h c
  unfold gSum at h
  split at h
  · obtain ⟨v, rfl, i⟩ := one_arg ix
    obtain ⟨a, us, ys, rfl, hs, hp, ns, rfl, h⟩ := withL_rd wd i h
    obtain rfl := ints_of hp
    exact ⟨a, ns, rfl, hs, c.now wd h (.dat (.int _))⟩
  · exact h.elim
def maxOr (d : Int) : List Int → Int
  | [] => d
  | n :: ns => ns.foldl max n
theorem PK.imp {X : Cx} {kws : List Keyword} {t t' : TA} (h : PK X kws t) (i : ∀ σ H Q, t' σ H Q → t σ H Q) : PK X kws t' := ⟨fun pos pins s σ H Q I q => h.run pos pins s σ H Q I (i σ H Q q)⟩
end DD
namespace SP
open PySem PySem.Spec PyProof.Rows L2 DD
def openAt (ws : List (Str × Win)) (ns : List Str) (m : Int) : List Str := ns.filter fun n => decide ((winOf ws n).1 ≤ m) && decide (m < (winOf ws n).2)
def mostAt (ws : List (Str × Win)) (ns : List Str) : Int := maxOr 0 (ns.map fun n => ((openAt ws ns (winOf ws n).1).length : Int))
end SP
namespace SP
open PySem PySem.Spec PyProof.Rows L2 DD
end SP
namespace SP
open PySem PySem.Spec PyProof.Rows L2 DD
def winsOf (b : Bk) (l : Lst) (t : List Str) : List (Str × Win) := t.map fun n => (n, winOf (windows b l) n)
end SP
namespace SP
open PySem PySem.Spec PyProof.Rows L2 DD
theorem ints_alike (rs : List Int) : PySem.W.AlikeAll (rs.map PyData.int) := by
  refine ⟨fun x hx y hy => ?_, fun x hx => ?_⟩
  · obtain ⟨a, _, rfl⟩ := List.mem_map.mp hx
    obtain ⟨c, _, rfl⟩ := List.mem_map.mp hy
    simp [PySem.W.alike]
  · obtain ⟨a, _, rfl⟩ := List.mem_map.mp hx
    exact fun z => by cases z
end SP
namespace SP
open PySem PySem.Spec PyProof.Rows L2 DD
end SP
namespace SP
open PySem PySem.Spec PyProof.Rows L2 DD
end SP
namespace SP
open PySem PySem.Spec PyProof.Rows L2 DD
def btRows (ws : List (Str × Win)) : List Bn := (ws.map fun x => ((x.2.1, x.1) : Bn)).mergeSort bnLe
def btn (ws : List (Str × Win)) : List Str := (btRows ws).map (·.2)
theorem bt_perm (ws : List (Str × Win)) : (btRows ws).Perm (ws.map fun x => ((x.2.1, x.1) : Bn)) := List.mergeSort_perm _ _
theorem btn_perm (ws : List (Str × Win)) : (btn ws).Perm (ws.map (·.1)) := by
  have := (bt_perm ws).map (·.2)
  rw [List.map_map] at this
  exact this
@[irreducible] def ctBtn : Ct := fun ss st ok _ => ∃ ws : List (Str × Win), ss = [.dat (dicD winD ws), .dat (dicD winD ws)] ∧ ws.length ≤ 10 ∧ (ws.map (·.1)).Nodup ∧ ok (.dat (namesD (btn ws))) st
theorem ctBtn_eq {ss : List Sv} {st : Store} {ok : OK} {ex : EK} : ctBtn ss st ok ex = ∃ ws : List (Str × Win), ss = [.dat (dicD winD ws), .dat (dicD winD ws)] ∧ ws.length ≤ 10 ∧ (ws.map (·.1)).Nodup ∧ ok (.dat (namesD (btn ws))) st := by unfold ctBtn; rfl
def freeR (ws : List (Str × Win)) (p : Plan) (w : Win) : Nat := ((List.range 11).find? fun r : Nat => (onRecW ws p (r : Int) w).isEmpty).getD 0
def seatStep (ws : List (Str × Win)) (p : Plan) (n : Str) : Plan := p ++ [(n, (freeR ws p (winOf ws n) : Int))]
structure SInv (pre : List Str) (p : Plan) : Prop where
  ns : p.map (·.1) = pre
  lt : ∀ x ∈ p, 0 ≤ x.2 ∧ x.2 < (p.length : Int)
theorem SInv.len {pre : List Str} {p : Plan} (h : SInv pre p) : p.length = pre.length := by
  rw [← h.ns, List.length_map]
theorem SInv.free {pre : List Str} {p : Plan} (h : SInv pre p) (hl : p.length ≤ 10) (ws : List (Str × Win)) (w : Win) : freeR ws p w ≤ p.length ∧ onRecW ws p (freeR ws p w : Int) w = [] ∧ ∀ r' : Nat, r' < freeR ws p w → onRecW ws p (r' : Int) w ≠ [] := by
  have hout : onRecW ws p (p.length : Int) w = [] := on_out fun x hx => (h.lt x hx).2
  have key : ∃ r, (List.range 11).find? (fun r : Nat => (onRecW ws p (r : Int) w).isEmpty) = some r := by
    cases e : (List.range 11).find? (fun r : Nat => (onRecW ws p (r : Int) w).isEmpty) with
    | some r => exact ⟨r, rfl⟩
    | none =>
      have := List.find?_eq_none.mp e p.length (List.mem_range.mpr (by omega))
      rw [hout] at this
      exact absurd rfl this
  obtain ⟨r, e⟩ := key
  have hr : freeR ws p w = r := by unfold freeR; rw [e]; rfl
  rw [List.find?_range_eq_some] at e
  obtain ⟨e1, e2, e3⟩ := e
  rw [hr]
  have h0 : ∀ r' : Nat, r' < r → onRecW ws p (r' : Int) w ≠ [] := fun r' hr' z => by
    have := e3 r' hr'
    rw [z] at this
    cases this
  refine ⟨?_, ?_, h0⟩
  · rcases Nat.lt_or_ge p.length r with c | c
    · exact absurd hout (h0 _ c)
    · exact c
  · cases z : onRecW ws p (r : Int) w with
    | nil => rfl
    | cons a as => rw [z] at e1; cases e1
theorem SInv.step {pre : List Str} {p : Plan} (h : SInv pre p) (hl : p.length ≤ 10) (ws : List (Str × Win)) (n : Str) : SInv (pre ++ [n]) (seatStep ws p n) := by
  unfold seatStep
  refine ⟨by rw [List.map_append, h.ns]; rfl, fun x hx => ?_⟩
  rw [List.length_append, List.length_singleton]
  rcases List.mem_append.mp hx with hx | hx
  · have := h.lt x hx
    omega
  · rw [List.mem_singleton.mp hx]
    have := (h.free hl ws (winOf ws n)).1
    dsimp only
    omega
theorem SInv.ok {ws : List (Str × Win)} {pre : List Str} {p : Plan} (h : SInv pre p) (nd : pre.Nodup) (hl : pre.length ≤ 10) (hs : ∀ n ∈ pre, n ∈ ws.map (·.1)) : POk p ∧ ∀ x ∈ p, (look ws x.1).isSome := by
  refine ⟨⟨by rw [h.ns]; exact nd, by rw [h.len]; exact hl⟩, fun x hx => ?_⟩
  obtain ⟨a, ha⟩ := look_is (hs x.1 (by rw [← h.ns]; exact List.mem_map.mpr ⟨x, hx, rfl⟩))
  rw [ha]
  rfl
theorem wins_keys (b : Bk) (l : Lst) (t : List Str) : (winsOf b l t).map (·.1) = t := by
  unfold winsOf
  rw [List.map_map]
  exact List.map_id _
theorem asc_nodup {t : List Str} (h : ascN t) : t.Nodup := h.imp fun {a b} k e => by subst e; rw [str_ord.ir] at k; cases k
end SP
namespace SP
open PySem PySem.Spec PyProof.Rows L2 DD
structure SmallT (x : Str × Snd) : Prop where
  s : SmallS x
  b : x.2.begin_ ≤ 39
  e : x.2.end_ ≤ 58
  w : x.2.begin_ + 5 ≤ x.2.end_
  sh : x.2.show_ ∈ threeW
structure SmallR (r : Rul) : Prop where
  b : r.before ≤ 3
  a : r.after ≤ 5
  p : r.priority ≤ 3
@[irreducible] def ctLRulesB : Ct := fun ss st ok _ => ∃ (p q : Addr) (a i : Int) (xs : List Int) (st0 : Store) (m : Int), ss = [.own p, dI m] ∧ st = (p, obH q a i) :: (q, obX xs) :: st0 ∧ xs.length ≤ 63 ∧ 0 ≤ m ∧ m ≤ 6 ∧
  ∀ (t : List Rul) a' i' xs', t.length ≤ m.toNat → (∀ x ∈ t, ROk x) → (∀ x ∈ t, SmallR x) → xs'.length ≤ 63 → ok (.dat (.lst (t.map rulT))) ((p, obH q a' i') :: (q, obX xs') :: st0)
theorem ctLRulesB_eq {ss : List Sv} {st : Store} {ok : OK} {ex : EK} : ctLRulesB ss st ok ex = ∃ (p q : Addr) (a i : Int) (xs : List Int) (st0 : Store) (m : Int), ss = [.own p, dI m] ∧ st = (p, obH q a i) :: (q, obX xs) :: st0 ∧ xs.length ≤ 63 ∧ 0 ≤ m ∧ m ≤ 6 ∧
  ∀ (t : List Rul) a' i' xs', t.length ≤ m.toNat → (∀ x ∈ t, ROk x) → (∀ x ∈ t, SmallR x) → xs'.length ≤ 63 → ok (.dat (.lst (t.map rulT))) ((p, obH q a' i') :: (q, obX xs') :: st0) := by unfold ctLRulesB; rfl
end SP
namespace SP
open PySem PySem.Spec PyProof.Rows L2 DD
theorem win_lo {b : Bk} {l : Lst} (hb : BOk b) (hl : LOk l) {w : Wi} (hw : w ∈ wished b l) : 0 ≤ w.win.1 ∧ w.win.1 ≤ w.s.begin_ ∧ w.win.1 < w.win.2 := by
  obtain ⟨h1, h2⟩ := wished_mem.mp hw
  have hs := (hl.ok _ h1).2
  have hr : w.r ∈ b.rules := by
    unfold ruleFor ruleOf at h2
    split at h2
    · cases h2
    · exact List.mem_of_find?_eq_some h2
  have hr := hb.ok _ hr
  have := hs.b0
  have := hr.b0
  refine ⟨?_, ?_, win_pos hb hl hw⟩ <;> (unfold Wi.win; dsimp only at *; split <;> omega)
end SP
namespace SP
open PySem PySem.Spec PyProof.Rows L2 DD
def Rul.norm (r : Rul) : Rul := { r with show_ := "", first := 0, last := 0 }
def Same (P : Snd → Prop) (b b' : Bk) : Prop := ∀ s, P s → (ruleFor b s).map Rul.norm = (ruleFor b' s).map Rul.norm
theorem Same.seen2 {P : Snd → Prop} {b b' : Bk} (h : Same P b b') (es : List Ep) : Same P (b.seen2 es) (b'.seen2 es) := by
  intro s hp
  have key : ∀ b : Bk, ruleFor (b.seen2 es) s = if s.ep ∈ es then none else ruleFor b s := fun b => by
    unfold ruleFor ruleOf Bk.seen2
    dsimp only
    show (if s.ep ∈ b.seen ++ es then none else _) = if s.ep ∈ es then none else if s.ep ∈ b.seen then none else _
    by_cases z : s.ep ∈ es
    · rw [if_pos z, if_pos (List.mem_append_right _ z)]
    · rw [if_neg z]
      by_cases z2 : s.ep ∈ b.seen
      · rw [if_pos z2, if_pos (List.mem_append_left _ z2)]
      · rw [if_neg z2, if_neg (fun q => (List.mem_append.mp q).elim z2 z)]
  rw [key, key]
  split
  · rfl
  · exact h s hp
def hit (sh : Str) (e : Int) (r : Rul) : Bool := decide (r.show_ = sh) && (decide (r.first ≤ e) && decide (e ≤ r.last))
def Eqv (A B : List Rul) : Prop := ∀ sh e, (A.find? (hit sh e)).map Rul.norm = (B.find? (hit sh e)).map Rul.norm
theorem Eqv.nil : Eqv [] [] := fun _ _ => rfl
theorem Eqv.app {A B C D : List Rul} (h : Eqv A B) (k : Eqv C D) : Eqv (A ++ C) (B ++ D) := fun sh e => by
  rw [List.find?_append, List.find?_append]
  have h1 := h sh e
  have h2 := k sh e
  cases ha : A.find? (hit sh e) with
  | some x =>
    rw [ha] at h1
    cases hb : B.find? (hit sh e) with
    | some y => rw [hb] at h1; exact h1
    | none => rw [hb] at h1; cases h1
  | none =>
    rw [ha] at h1
    cases hb : B.find? (hit sh e) with
    | some y => rw [hb] at h1; cases h1
    | none => exact h2
end SP
namespace SP
open PySem PySem.Spec PyProof.Rows L2 DD
end SP
namespace UU
open PySem PySem.Spec PyProof.Rows L2 DD
section
variable {P : Program} {w : World} {A : Around} {E : Value → Shared → Prop}
theorem Rws.keep {Z : List Key → Addr → Prop} {h h' : Heap} {a : Addr} {ks : List (List Key)} {es : Array (Int × Value)} {ep : Nat} {t : SetTable} (R : Rws P w Z h a ks es ep t) (ha : ∀ o, h.get? a = some o → h'.get? a = some o) (ht : ∀ k b, Z k b → TupAt P w h' k b) : Rws P w Z h' a ks es ep t := by
  obtain ⟨o, ho, r⟩ := R.obj
  exact ⟨⟨o, ha o ho, r⟩, paired_mono (fun k e ⟨b, he, _, hz⟩ => ⟨b, he, ht k b hz, hz⟩) R.ent, R.tab, R.nd, R.room, R.few⟩
end
end UU
namespace UU
open PySem PySem.Spec PyProof.Rows L2 DD
end UU
namespace DD
open PySem PySem.Spec PyProof.Rows L2 UU
end DD
namespace DD
open PySem PySem.Spec PyProof.Rows L2
end DD
namespace DD
open PySem PySem.Spec PyProof.Rows L2
end DD
namespace PySem.SeqAt
open AutoSeq1 (wpAny_loadPart')
open MeetsSeq MeetsSeq2 MeetsSeq3 SeqRoads2
end PySem.SeqAt
namespace DD
open PySem PySem.Spec PyProof.Rows L2
end DD
namespace SP
open PySem PySem.Spec PyProof.Rows L2 DD
theorem Same.symm {P : Snd → Prop} {b b' : Bk} (h : Same P b b') : Same P b' b := fun s hp => (h s hp).symm
end SP
namespace SP
open PySem PySem.Spec PyProof.Rows L2 DD
end SP
namespace SP
open PySem PySem.Spec PyProof.Rows L2 DD
end SP
namespace SP
open PySem PySem.Spec PyProof.Rows L2 DD
theorem own_wn {b : Bk} {l : Lst} (hl : LOk l) {k : Nat} : ∀ n ∈ (ownPlan b l k).map (·.1), n ∈ wn b l := fun n hn => by
  obtain ⟨x, hx, rfl⟩ := List.mem_map.mp hn
  obtain ⟨w, hw, e, _⟩ := own_wish hl hx
  exact List.mem_map.mpr ⟨w, hw, e⟩
end SP
namespace SP
open PySem PySem.Spec PyProof.Rows L2 DD
structure Seats (b : Bk) (l : Lst) (t : List Str) (p : Plan) : Prop where
  perm : (p.map (·.1)).Perm t
  low : ∀ x ∈ p, 0 ≤ x.2
  few : ∀ x ∈ p, x.2 + 1 ≤ mostAt (windows b l) t
  quiet : ∀ x ∈ p, ∀ y ∈ p, x.1 ≠ y.1 → x.2 = y.2 → overlap (winOf (windows b l) x.1) (winOf (windows b l) y.1) = false
theorem Seats.nd {b : Bk} {l : Lst} {t : List Str} {p : Plan} (h : Seats b l t p) (ht : In l t) : (p.map (·.1)).Nodup := h.perm.nodup_iff.mpr (asc_nodup ht.asc)
theorem Seats.ok {b : Bk} {l : Lst} (hl : LOk l) {t : List Str} {p : Plan} (h : Seats b l t p) (ht : In l t) : POk p := ⟨h.nd ht, by
  have h1 := h.perm.length_eq
  rw [List.length_map] at h1
  rw [h1]
  have := (asc_nodup ht.asc).length_le_of_subset ht.mem
  rw [List.length_map] at this
  exact Nat.le_trans this hl.len⟩
end SP
namespace DD
open PySem PySem.Spec PyProof.Rows L2
def eqTx (k : Str) : Value → Bool
  | .str a _ => a == k
  | _ => false
theorem txs_get : ∀ {ns : List Str} {us : List Value}, Vals (ns.map V.str) us → (∀ (i : Nat) (k : Str), ns[i]? = some k → ∃ t, us[i]? = some (.str k t)) ∧ (∀ y ∈ us, ∃ a t, y = Value.str a t)
  | [], us, h => by
    cases h
    exact ⟨fun i k e => (by simp at e), fun y hy => by cases hy⟩
  | n :: ns, us, h => by
    rw [List.map_cons] at h
    cases h with
    | cons h1 h2 =>
      obtain ⟨t, rfl⟩ := h1
      obtain ⟨i1, i2⟩ := txs_get h2
      refine ⟨fun i k e => ?_, fun y hy => ?_⟩
      · cases i with
        | zero =>
          simp only [List.getElem?_cons_zero, Option.some.injEq] at e
          subst e
          exact ⟨t, rfl⟩
        | succ i =>
          rw [List.getElem?_cons_succ] at e
          obtain ⟨t, h⟩ := i1 i k e
          exact ⟨t, h⟩
      · rcases List.mem_cons.mp hy with rfl | hy
        · exact ⟨_, _, rfl⟩
        · exact i2 y hy
def rRemT : V → List V → Hp → VK → Prop := fun x xs H Q => ∃ (l : Addr) (ns : List Str) (k : Str) (j : Nat), x = V.ref l ∧ xs = [V.str k] ∧ H l = some (HO.lst (ns.map V.str)) ∧ ns[j]? = some k ∧ (∀ m : Nat, m < j → ns[m]? ≠ some k) ∧ Q V.non (upd H l (HO.lst ((ns.eraseIdx j).map V.str)))
theorem erase_mapT : ∀ (ns : List Str) (j : Nat), (ns.map V.str).eraseIdx j = (ns.eraseIdx j).map V.str
  | [], _ => rfl
  | n :: ns, 0 => rfl
  | n :: ns, j + 1 => by
    rw [List.map_cons, List.eraseIdx_cons_succ, List.eraseIdx_cons_succ, List.map_cons, erase_mapT ns j]
theorem mt_removeT {X : Cx} : MtR X "list.remove" rRemT := by
  rintro pins s σ H x xs v us Q I rx rxs ⟨l, ns, k, j, rfl, rfl, hH, hj, hno, q⟩
  obtain rfl : v = Value.ref l := by first | exact rx | exact rx.symm | (cases rx; rfl)
  obtain ⟨u, rfl, t, rfl⟩ := Vals.one rxs
  obtain ⟨z, its, n, r, hl, e⟩ := Inv.lstM I hH
  rw [List.length_map] at hl z
  obtain ⟨g1, g2⟩ := txs_get r
  have hjn := (List.getElem?_eq_some_iff.mp hj).1
  have hjl : j < its.toArray.size := by rw [List.size_toArray]; omega
  refine call_meets F.slot_list_remove ⟨_, e, rfl⟩ F.entry_list_remove (F.args_list_remove_2 _ _) (MeetsSeq.list_remove l its.toArray n (Value.str k t) (eqTx k) (fun y hy => ?_) j hjl ?_ (fun m hm hmj => ?_) (by rw [List.size_toArray]; omega)) ⟨e, ?_⟩
  · obtain ⟨a, ta, rfl⟩ := g2 y (by simpa using hy)
    exact eqGives_str a k ta t
  · obtain ⟨tj, hjt⟩ := g1 j k hj
    obtain ⟨h1, h2⟩ := List.getElem?_eq_some_iff.mp hjt
    have e1 : its.toArray[j] = Value.str k tj := h2
    rw [e1]
    exact beq_self_eq_true k
  · have hmn : m < ns.length := by omega
    obtain ⟨tm, hmt⟩ := g1 m ns[m] (List.getElem?_eq_getElem hmn)
    obtain ⟨h1, h2⟩ := List.getElem?_eq_some_iff.mp hmt
    have e1 : its.toArray[m] = Value.str ns[m] tm := h2
    rw [e1]
    refine beq_eq_false_iff_ne.mpr fun e2 => hno m hmj ?_
    rw [List.getElem?_eq_getElem hmn, e2]
  · have rr := Vals.eraseIdx j r
    rw [erase_mapT] at rr
    have z2 := List.length_eraseIdx_le ns j
    exact ⟨V.non, _, Inv.lset I hH e (by rw [List.eraseIdxIfInBounds_toArray]) rr (by rw [List.length_map]; omega), rfl, q⟩
def dRem (to te : DE) : DS := fun Δ st N => to Δ st (fun o st1 => match o with
  | .own p => (∃ (j : Nat) (xs : List Sv), st1[j]? = some (p, Ob.lst xs)) ∧ te Δ st1 (fun v st2 => match v with
    | .dat (.str k) => ∃ (j : Nat) (ns : List Str) (i : Nat), st2[j]? = some (p, Ob.lst (ns.map fun n => .dat (.str n))) ∧ ns[i]? = some k ∧ (∀ m : Nat, m < i → ns[m]? ≠ some k) ∧ N.nx Δ (st2.set j (p, .lst ((ns.eraseIdx i).map fun n => .dat (.str n))))
    | _ => False) (exAt N Δ)
  | _ => False) (exAt N Δ)
theorem txs_are {K : PySem.W.Frag} {I : Hp} : ∀ {ns : List Str} {vs : List V}, IsSs K I (ns.map fun n => .dat (.str n)) vs → vs = ns.map V.str
  | [], _, .nil => rfl
  | n :: ns, _, .cons (.dat (.str _)) t => by rw [List.map_cons, txs_are t]
theorem txs_own {K : PySem.W.Frag} {I : Hp} : ∀ ns : List Str, IsSs K I (ns.map fun n => .dat (.str n)) (ns.map V.str)
  | [] => .nil
  | n :: ns => .cons (.dat (.str n)) (txs_own ns)
theorem lowS_rem {K : PySem.W.Frag} {W : WX} {to te : DE} : ∀ D σ H, lowS K (dRem to te) W D σ H → tDrop (tBM K "list" rRemT (low K to W) (tCons (low K te W) tNil)) D σ H := by
  rintro D σ H ⟨Δ, st, I, N, wd, sl, h, e⟩
  refine low_go wd sl h (fun o st1 ov I1 H1 h1 w1 s1 i1 => ?_) (cx_of sl e)
  cases i1 with
  | dat hd => exact h1.elim
  | own p =>
    obtain ⟨⟨j, xs, hj⟩, h1⟩ := h1
    obtain ⟨u, hu, io⟩ := own_at w1 hj
    cases io with
    | @lst _ us hs =>
      refine ⟨.inl ⟨rfl, us, .inl (.inl hu)⟩, low_go w1 (sl.mono s1.ii) h1 (fun v st2 vv I2 H2 h2 w2 s2 i2 => ?_) (cx_of (sl.mono s1.ii) (e.go s1))⟩
      cases i2 with
      | own q => exact h2.elim
      | dat hy =>
        cases hy with
        | str k =>
          obtain ⟨j2, ns, i, hj2, hi, hno, hn⟩ := h2
          obtain ⟨u2, hu2, io2⟩ := own_at w2 hj2
          cases io2 with
          | @lst _ us2 hs2 =>
            obtain rfl := txs_are hs2
            obtain ⟨w3, s3⟩ := set_own (o' := .lst ((ns.eraseIdx i).map V.str)) w2 hj2 (.lst (txs_own (ns.eraseIdx i)))
            exact ⟨p, ns, k, i, rfl, rfl, hu2, hi, hno, e.nx _ _ _ _ _ hn w3 ((s1.trans s2).trans s3) (sl.mono (s1.trans s2).ii)⟩
        | _ => exact h2.elim
theorem srem {X : Cx} {W : WX} {o e : Expr} {apos pos p2 : Pos} {to te : DE} (ho : PEd X W o to) (he : PEd X W e te) (hbase : attributeBase o "remove" X.env (eval o X.env) = eval o X.env := by rfl)
    (hfew : ((backTo pos (starEach [e] X.env)).all (fun x => !x.1) && (backToKw pos (keywordEach [] X.env)).all (fun x => x.1.isSome)
      && decide (([e] : List Expr).length + ([] : List Keyword).length + (if ([] : List Keyword).isEmpty then 0 else 1) < 30)) = true := by rfl)
    (hline : (apos.endLine == pos.line) = true := by rfl) (hs : starEach [e] X.env = (false, eval e X.env) :: starEach [] X.env := by rfl) (hplain : (backTo pos (starEach [] X.env)).any (·.1) = false := by rfl)
    (hsw : swapsWith (.Call (.Attribute o "remove" apos) [e] [] pos) none p2.line X.env = pure false := by rfl) : PSd X W (.Expr (.Call (.Attribute o "remove" apos) [e] [] pos) p2) (dRem to te) :=
  PS.imp (ps_expr (pe_bm PySem.F.plainAttrs_list PySem.F.slot_list_remove PySem.F.type_list_remove mt_removeT ho (pa_cons he pa_nil hs) hbase hfew hline hs hplain) hsw) lowS_rem
end DD
namespace SP
open PySem PySem.Spec PyProof.Rows L2 DD
def ctBtnP : Ct := fun ss st ok ex => ctBtn ss st ok ex ∨ ∃ (ws : List (Str × Win)) (p : Plan), ss = [.dat (dicD winD ws), .dat (planD p)] ∧ p.length ≤ 10 ∧ (p.map (·.1)).Nodup ∧ (∀ x ∈ p, ∃ w, look ws x.1 = some w) ∧ ok (.dat (namesD (btn (p.map fun x => (x.1, winOf ws x.1))))) st
abbrev Sz := List (Str × Int)
def sizesOf (b : Bk) (l : Lst) (k : Nat) : Sz := (btn (winsOf b l ((ownPlan b l k).map (·.1)))).map fun n => (n, (winOf (windows b l) n).2 - (winOf (windows b l) n).1)
def ctRecMin (c : Cl) : Ct := ctBL c (fun k : Nat => [dI (k : Int)]) (fun _ _ k => 1 ≤ k ∧ k ≤ 10) fun b l k => dicD .int (sizesOf b l k)
def ctRecMinX (c : Cl) (I : Addr) : Ct := fun ss st ok ex => ctRecMin c ss st ok ex ∨ ∃ (b : Bk) (l : Lst) (d : Dt), ss = [.dat (b.d c), .dat (lstD c l), .dat d] ∧ OddK d ∧ ex ⟨I, []⟩ st
def mins (sz : Sz) (ns : List Str) : Int := (ns.map fun n => (look sz n).getD 0).sum
/-- a list of names, known or one's own -/
def NamesAt (x : Sv) (st : Store) (ns : List Str) : Prop := x = .dat (namesD ns) ∨ ∃ (q : Addr) (j : Nat), x = .own q ∧ st[j]? = some (q, Ob.lst (ns.map fun n => .dat (.str n)))
def ctMins : Ct := fun ss st ok _ => ∃ (sz : Sz) (ns : List Str) (x : Sv), ss = [.dat (dicD .int sz), x] ∧ NamesAt x st ns ∧ ns.length ≤ 60 ∧ (∀ n ∈ ns, ∃ v, look sz n = some v) ∧ ok (dI (mins sz ns)) st
def isIn (t : List Str) (n : Str) : Bool := decide (n ∈ t)
def ctAmong2 : Ct := fun ss st ok _ => ∃ (ns t : List Str) (x : Sv), ss = [x, .dat (nsD t)] ∧ NamesAt x st ns ∧ ns.length ≤ 60 ∧ (∀ n ∈ ns, isWord n = true) ∧ (∀ n ∈ t, isWord n = true) ∧ ok (.dat (namesD (ns.filter (isIn t)))) st
def ctChkNum (I : Addr) : Ct := fun ss st ok ex => ∃ m a z : Int, ss = [dI m, dI a, dI z] ∧ a ≤ m ∧ m ≤ z ∧ ok (.dat .non) st
structure Dk where
  kept : List Str
  del : List Str
  ref : List Str
/-- room is made: the first that is not safe goes -/
def evict (sz : Sz) (t : List Str) (m s : Int) : Nat → List Str × List Str → List Str × List Str
  | 0, x => x
  | n + 1, x => if m < mins sz x.1 + s then match x.1.filter fun o => !isIn t o with
    | [] => x
    | e :: _ => evict sz t m s n (x.1.erase e, x.2 ++ [e])
    else x
def dkStep (sz : Sz) (t : List Str) (m : Int) (a : Dk) (x : Str × Int) : Dk :=
  if m - mins sz (a.kept.filter (isIn t)) < x.2 then ⟨a.kept, a.del, a.ref ++ [x.1]⟩
  else ⟨(evict sz t m x.2 a.kept.length (a.kept, a.del)).1 ++ [x.1], (evict sz t m x.2 a.kept.length (a.kept, a.del)).2, a.ref⟩
def diskOf (sz : Sz) (t : List Str) (m : Int) : Dk := sz.foldl (dkStep sz t m) ⟨[], [], []⟩
def dkD (a : Dk) : Dt := .tup [namesD a.kept, namesD a.del, namesD a.ref]
def ctDisk (c : Cl) : Ct := ctBL c (fun a : Nat × Int × List Str => [dI (a.1 : Int), dI a.2.1, .dat (nsD a.2.2)]) (fun _ _ a => (1 ≤ a.1 ∧ a.1 ≤ 10) ∧ (1 ≤ a.2.1 ∧ a.2.1 ≤ 1000000) ∧ ∀ n ∈ a.2.2, isWord n = true) fun b l a => dkD (diskOf (sizesOf b l a.1) a.2.2 a.2.1)
def need1 (sz : Sz) (t : List Str) (x : Str × Nat) : Int := (look sz x.1).getD 0 + mins sz (((sz.map (·.1)).take x.2).filter (isIn t))
def needs (sz : Sz) (t : List Str) : List Int := (sz.map (·.1)).zipIdx.map (need1 sz t)
def leastOf (sz : Sz) (t : List Str) : Option Int := if (needs sz t).foldl max 1 ≤ 100000 then some ((needs sz t).foldl max 1) else none
def optZ : Option Int → Dt
  | some i => .int i
  | none => .non
def ctLeastDisk (c : Cl) : Ct := ctBL c (fun a : Nat × List Str => [dI (a.1 : Int), .dat (nsD a.2)]) (fun _ _ a => (1 ≤ a.1 ∧ a.1 ≤ 10) ∧ ∀ n ∈ a.2, isWord n = true) fun b l a => optZ (leastOf (sizesOf b l a.1) a.2)
theorem sizes_keys (b : Bk) (l : Lst) (k : Nat) : (sizesOf b l k).map (·.1) = btn (winsOf b l ((ownPlan b l k).map (·.1))) := by
  unfold sizesOf
  rw [List.map_map]
  exact List.map_id _
theorem sizes_perm (b : Bk) (l : Lst) (k : Nat) : ((sizesOf b l k).map (·.1)).Perm ((ownPlan b l k).map (·.1)) := by
  rw [sizes_keys]
  have := btn_perm (winsOf b l ((ownPlan b l k).map (·.1)))
  rwa [wins_keys] at this
structure SzOk (sz : Sz) : Prop where
  nd : (sz.map (·.1)).Nodup
  len : sz.length ≤ 10
  pos : ∀ x ∈ sz, 1 ≤ x.2
  word : ∀ x ∈ sz, isWord x.1 = true
theorem sizes_ok {b : Bk} {l : Lst} (hb : BOk b) (hl : LOk l) (k : Nat) : SzOk (sizesOf b l k) := by
  have hp := sizes_perm b l k
  refine ⟨hp.nodup_iff.mpr (own_nd hl k), ?_, fun x hx => ?_, fun x hx => ?_⟩
  · have := hp.length_eq
    rw [List.length_map, List.length_map] at this
    rw [this]
    exact own_len hl k
  · have hn := own_wn hl x.1 (hp.mem_iff.mp (List.mem_map.mpr ⟨x, hx, rfl⟩))
    unfold sizesOf at hx
    obtain ⟨n, _, rfl⟩ := List.mem_map.mp hx
    obtain ⟨w, hw, e⟩ := List.mem_map.mp hn
    have e : w.n = n := e
    subst e
    dsimp only
    rw [win_is hl hw]
    have := (win_lo hb hl hw).2.2
    omega
  · exact own_word hl (hp.mem_iff.mp (List.mem_map.mpr ⟨x, hx, rfl⟩))
theorem SzOk.look {sz : Sz} (h : SzOk sz) {x : Str × Int} (hx : x ∈ sz) : SP.look sz x.1 = some x.2 := look_mem h.nd hx
theorem mins_cons (sz : Sz) (n : Str) (ns : List Str) : mins sz (n :: ns) = (look sz n).getD 0 + mins sz ns := by
  unfold mins
  rw [List.map_cons, List.sum_cons]
theorem mins_all {sz : Sz} (t : List Str) : ∀ ns : List Str, (ns.filter fun o => !isIn t o) = [] → mins sz (ns.filter (isIn t)) = mins sz ns
  | [], _ => rfl
  | n :: ns, h => by
    rw [List.filter_cons] at h
    cases hn : isIn t n with
    | true =>
      rw [hn] at h
      rw [List.filter_cons, hn, if_pos rfl, mins_cons, mins_cons, mins_all t ns h]
    | false =>
      rw [hn] at h
      cases h
/-- the state of the disk while it is walked -/
structure DkI (sz : Sz) (pre : Sz) (a : Dk) : Prop where
  kept : a.kept.Sublist (pre.map (·.1))
  len : a.kept.length + a.del.length + a.ref.length = pre.length
  del : ∀ n ∈ a.del, n ∈ pre.map (·.1)
  ref : ∀ n ∈ a.ref, n ∈ pre.map (·.1)
theorem first_atT {e : Str} : ∀ {ns : List Str}, e ∈ ns → ∃ i : Nat, ns[i]? = some e ∧ (∀ m : Nat, m < i → ns[m]? ≠ some e) ∧ ns.erase e = ns.eraseIdx i
  | n :: ns, h => by
    by_cases c : n = e
    · subst c
      exact ⟨0, rfl, fun m hm => absurd hm (Nat.not_lt_zero _), by rw [List.erase_cons_head]; rfl⟩
    · obtain ⟨i, h1, h2, h3⟩ := first_atT ((List.mem_cons.mp h).resolve_left fun z => c z.symm)
      refine ⟨i + 1, h1, fun m hm => ?_, by rw [List.erase_cons_tail (by simpa using c), h3]; rfl⟩
      cases m with
      | zero => exact fun z => c (Option.some.inj z)
      | succ m => exact h2 m (by omega)
theorem erase_len {n : Str} {ns : List Str} (h : n ∈ ns) : (ns.erase n).length + 1 = ns.length := by
  have := List.length_erase_of_mem h
  have := List.length_pos_of_mem h
  omega
theorem filter_erase {q : Str → Bool} {e : Str} (he : q e = false) : ∀ ns : List Str, (ns.erase e).filter q = ns.filter q
  | [] => rfl
  | n :: ns => by
    by_cases c : n = e
    · subst c
      rw [List.erase_cons_head, List.filter_cons, he]
      rfl
    · rw [List.erase_cons_tail (by simpa using c), List.filter_cons, List.filter_cons, filter_erase he ns]
theorem evict_step {sz : Sz} {t : List Str} {m s : Int} {n : Nat} {kept del : List Str} {e : Str} {es : List Str} (h : m < mins sz kept + s) (he : (kept.filter fun o => !isIn t o) = e :: es) : evict sz t m s (n + 1) (kept, del) = evict sz t m s n (kept.erase e, del ++ [e]) := by
  rw [evict, if_pos h]
  dsimp only
  rw [he]
theorem evict_stop {sz : Sz} {t : List Str} {m s : Int} {n : Nat} {kept del : List Str} (h : ¬ m < mins sz kept + s) : evict sz t m s n (kept, del) = (kept, del) := by
  cases n with
  | zero => rfl
  | succ n => rw [evict, if_neg h]
/-- the invariant of making room -/
structure EvI (sz pre : Sz) (t : List Str) (m s : Int) (a : Dk) (n : Nat) (kept del : List Str) : Prop where
  len : kept.length = n
  out : evict sz t m s n (kept, del) = evict sz t m s a.kept.length (a.kept, a.del)
  sub : kept.Sublist (pre.map (·.1))
  dl : kept.length + del.length + a.ref.length = pre.length
  fits : s ≤ m - mins sz (kept.filter (isIn t))
  del : ∀ n ∈ del, n ∈ pre.map (·.1)
theorem EvI.start {sz pre : Sz} {t : List Str} {m s : Int} {a : Dk} (h : DkI sz pre a) (hs : ¬ m - mins sz (a.kept.filter (isIn t)) < s) : EvI sz pre t m s a a.kept.length a.kept a.del := ⟨rfl, rfl, h.kept, h.len, by omega, h.del⟩
theorem EvI.first {sz pre : Sz} {t : List Str} {m s : Int} {a : Dk} {n : Nat} {kept del : List Str} (h : EvI sz pre t m s a n kept del) (hlt : m < mins sz kept + s) : ∃ e es, (kept.filter fun o => !isIn t o) = e :: es ∧ e ∈ kept := by
  cases he : kept.filter fun o => !isIn t o with
  | nil =>
    have := mins_all (sz := sz) t kept he
    have := h.fits
    omega
  | cons e es => exact ⟨e, es, rfl, (List.mem_filter.mp (show e ∈ kept.filter fun o => !isIn t o by rw [he]; exact List.mem_cons_self)).1⟩
theorem EvI.step {sz pre : Sz} {t : List Str} {m s : Int} {a : Dk} {n : Nat} {kept del : List Str} (h : EvI sz pre t m s a n kept del) (hlt : m < mins sz kept + s) {e : Str} {es : List Str} (he : (kept.filter fun o => !isIn t o) = e :: es) : ∃ n', n' < n ∧ EvI sz pre t m s a n' (kept.erase e) (del ++ [e]) := by
  have hm := List.mem_filter.mp (show e ∈ kept.filter fun o => !isIn t o by rw [he]; exact List.mem_cons_self)
  have hl := erase_len hm.1
  have hn := h.len
  cases n with
  | zero => omega
  | succ n =>
    refine ⟨n, by omega, by omega, ?_, List.erase_sublist.trans h.sub, ?_, ?_, fun o ho => ?_⟩
    · rw [← h.out, evict_step hlt he]
    · have := h.dl
      rw [List.length_append, List.length_singleton]
      omega
    · rw [filter_erase (by simpa using hm.2)]
      exact h.fits
    · rcases List.mem_append.mp ho with ho | ho
      · exact h.del o ho
      · rw [List.mem_singleton.mp ho]
        exact h.sub.subset hm.1
theorem DkI.refuse {sz pre : Sz} {t : List Str} {m : Int} {a : Dk} {x : Str × Int} (h : DkI sz pre a) (hs : m - mins sz (a.kept.filter (isIn t)) < x.2) : dkStep sz t m a x = ⟨a.kept, a.del, a.ref ++ [x.1]⟩ ∧ DkI sz (pre ++ [x]) (dkStep sz t m a x) := by
  have e : dkStep sz t m a x = ⟨a.kept, a.del, a.ref ++ [x.1]⟩ := by unfold dkStep; rw [if_pos hs]
  refine ⟨e, ?_⟩
  rw [e]
  have hsub : ∀ n ∈ pre.map (·.1), n ∈ (pre ++ [x]).map (·.1) := fun n hn => by rw [List.map_append]; exact List.mem_append_left _ hn
  refine ⟨?_, ?_, fun n hn => hsub n (h.del n hn), fun n hn => ?_⟩
  · rw [List.map_append]
    exact h.kept.trans (List.sublist_append_left _ _)
  · have := h.len
    rw [List.length_append, List.length_singleton, List.length_append, List.length_singleton]
    dsimp only
    omega
  · rcases List.mem_append.mp hn with hn | hn
    · exact hsub n (h.ref n hn)
    · rw [List.mem_singleton.mp hn, List.map_append]
      exact List.mem_append_right _ List.mem_cons_self
theorem EvI.done {sz pre : Sz} {t : List Str} {m : Int} {x : Str × Int} {a : Dk} (hr : ∀ n ∈ a.ref, n ∈ pre.map (·.1)) (hs : ¬ m - mins sz (a.kept.filter (isIn t)) < x.2) {n : Nat} {kept del : List Str} (h : EvI sz pre t m x.2 a n kept del) (hge : ¬ m < mins sz kept + x.2) : dkStep sz t m a x = ⟨kept ++ [x.1], del, a.ref⟩ ∧ DkI sz (pre ++ [x]) (dkStep sz t m a x) := by
  have e : dkStep sz t m a x = ⟨kept ++ [x.1], del, a.ref⟩ := by
    unfold dkStep
    rw [if_neg hs, ← h.out, evict_stop hge]
  refine ⟨e, ?_⟩
  rw [e]
  have hsub : ∀ n ∈ pre.map (·.1), n ∈ (pre ++ [x]).map (·.1) := fun n hn => by rw [List.map_append]; exact List.mem_append_left _ hn
  refine ⟨?_, ?_, fun n hn => hsub n (h.del n hn), fun n hn => hsub n (hr n hn)⟩
  · rw [List.map_append]
    exact h.sub.append (List.Sublist.refl _)
  · have := h.dl
    rw [List.length_append, List.length_singleton, List.length_append, List.length_singleton]
    dsimp only
    omega
theorem EvI.ends {sz pre : Sz} {t : List Str} {m s : Int} {a : Dk} : ∀ (n : Nat) {kept del : List Str}, EvI sz pre t m s a n kept del → ∃ n' kept' del', EvI sz pre t m s a n' kept' del' ∧ ¬ m < mins sz kept' + s := by
  intro n
  induction n using Nat.strongRecOn with
  | _ n ih =>
    intro kept del h
    by_cases c : m < mins sz kept + s
    · obtain ⟨e, es, he, _⟩ := h.first c
      obtain ⟨n', hn, h'⟩ := h.step c he
      exact ih n' hn h'
    · exact ⟨n, kept, del, h, c⟩
theorem DkI.step {sz pre : Sz} {t : List Str} {m : Int} {a : Dk} (h : DkI sz pre a) (x : Str × Int) : DkI sz (pre ++ [x]) (dkStep sz t m a x) := by
  by_cases c : m - mins sz (a.kept.filter (isIn t)) < x.2
  · exact (h.refuse c).2
  · obtain ⟨n, kept, del, h', c'⟩ := EvI.ends _ (EvI.start h c)
    exact (h'.done h.ref c c').2
theorem disk_inv (sz : Sz) (t : List Str) (m : Int) : ∀ (es pre : Sz) (a : Dk), DkI sz pre a → DkI sz (pre ++ es) (es.foldl (dkStep sz t m) a)
  | [], pre, a, h => by rw [List.append_nil]; exact h
  | e :: es, pre, a, h => by
    have := disk_inv sz t m es (pre ++ [e]) _ (h.step (t := t) (m := m) e)
    rw [List.append_assoc] at this
    exact this
theorem disk_pre (sz : Sz) (t : List Str) (m : Int) (pre : Sz) : DkI sz pre (pre.foldl (dkStep sz t m) ⟨[], [], []⟩) := by
  have := disk_inv sz t m pre [] ⟨[], [], []⟩ ⟨List.Sublist.refl _, rfl, (fun n hn => by cases hn), fun n hn => by cases hn⟩
  simpa using this
end SP
namespace DD
open PySem PySem.Spec PyProof.Rows L2
end DD
namespace DD
open PySem PySem.Spec PyProof.Rows L2
def dFmt (te : DE) : DE := fun Δ st ok ex => te Δ st (fun s st1 => match s with
  | .dat (.str y) => y.length ≤ sizeLine ∧ ok (.dat (.str y)) st1
  | .dat (.int i) => i.natAbs.log2 < 1920 ∧ ok (.dat (.str (toString i))) st1
  | _ => False) ex
theorem low_fmt {K : PySem.W.Frag} {W : WX} {te : DE} : ∀ σ H Q, low K (dFmt te) W σ H Q → tFmt (low K te W) σ H Q := by
  rintro σ H Q ⟨Δ, st, I, ok, ex, wd, sl, h, c, cx⟩
  refine low_go wd sl h (fun x st1 v I1 H1 h1 w1 s1 i1 => ?_) cx
  cases i1 with
  | own p => exact h1.elim
  | dat hd =>
    cases hd with
    | str y => exact .inl ⟨y, rfl, h1.1, (c.go s1).now w1 h1.2 (.dat (.str _))⟩
    | int i => exact .inr ⟨i, rfl, h1.1, (c.go s1).now w1 h1.2 (.dat (.str _))⟩
    | _ => exact h1.elim
theorem dfmt {X : Cx} {W : WX} {e : Expr} {te : DE} {pos : Pos} (h : PEd X W e te) : PEd X W (.FormattedValue e (-1) none pos) (dFmt te) := PE.imp (pe_fmt h) low_fmt
def dJs : List DE → Str → DE
  | [], acc => fun _ st ok _ => ok (.dat (.str acc)) st
  | t :: ts, acc => fun Δ st ok ex => t Δ st (fun s st1 => match s with
    | .dat (.str y) => (acc ++ y).length ≤ sizeLine ∧ dJs ts (acc ++ y) Δ st1 ok ex
    | _ => False) ex
def dJoin (ts : List DE) : DE := dJs ts Str.empty
theorem low_js {K : PySem.W.Frag} {W : WX} : ∀ (ts : List DE) (acc : Str) σ H Q, low K (dJs ts acc) W σ H Q → tJs (ts.map fun t => low K t W) acc σ H fun out H1 => Q (.str out) H1
  | [], acc, σ, H, Q, ⟨Δ, st, I, ok, ex, wd, sl, h, c, cx⟩ => c.now wd h (.dat (.str _))
  | t :: ts, acc, σ, H, Q, ⟨Δ, st, I, ok, ex, wd, sl, h, c, cx⟩ => by
    refine low_go wd sl h (fun x st1 v I1 H1 h1 w1 s1 i1 => ?_) cx
    cases i1 with
    | own p => exact h1.elim
    | dat hd =>
      cases hd with
      | str y => exact ⟨y, rfl, h1.1, low_js ts _ _ _ _ ⟨Δ, st1, I1, ok, ex, w1, sl.mono s1.ii, h1.2, c.go s1, cx.go s1⟩⟩
      | _ => exact h1.elim
/-- the parts' derivations -/
inductive PJd (X : Cx) (W : WX) : List Expr → List DE → Prop where
  | nil : PJd X W [] []
  | cons {e : Expr} {t : DE} {es : List Expr} {ts : List DE} (h : PEd X W e t) (r : PJd X W es ts) : PJd X W (e :: es) (t :: ts)
theorem PJd.pj {X : Cx} {W : WX} {es : List Expr} {ts : List DE} (h : PJd X W es ts) : PJ X es (ts.map fun t => low X.K t W) := by
  induction h with
  | nil => exact .nil
  | cons h r ih => exact .cons h ih
theorem djoin {X : Cx} {W : WX} {v1 v2 : Expr} {rest : List Expr} {ts : List DE} {pos : Pos} (h : PJd X W (v1 :: v2 :: rest) ts) : PEd X W (.JoinedStr (v1 :: v2 :: rest) pos) (dJoin ts) := PE.imp (pe_joined h.pj) fun σ H Q q => low_js ts _ σ H Q q
def dRaiseA (C : Addr) (ta : DA) : DS := fun Δ st N => ta Δ st (fun xs st1 => xs.length ≤ sizeLine ∧ N.ex ⟨C, []⟩ Δ st1) (exAt N Δ)
theorem lowS_raiseA {K : PySem.W.Frag} {W : WX} {C : Addr} {ta : DA} : ∀ D σ H, lowS K (dRaiseA C ta) W D σ H → lowA K ta W σ H fun vs H1 => vs.length ≤ sizeLine ∧ W (.ref C) none σ H1 := by
  rintro D σ H ⟨Δ, st, I, N, wd, sl, h, e⟩
  refine lowA_go wd sl h (fun xs st1 vs I1 H1 h1 w1 s1 i1 => ?_) (cx_of sl e)
  exact ⟨by rw [← i1.length]; exact h1.1, e.ex _ _ _ _ _ _ _ _ h1.2 w1 s1 (sl.mono s1.ii) ⟨rfl, .inl ⟨rfl, rfl⟩⟩⟩
theorem sraiseA {X : Cx} {W : WX} {C : Addr} {x : Str} {e : Expr} {es : List Expr} {ta : DA} {p pos pos2 : Pos} {bmB : List Value} {B newId initId : String} (F : ExcBaseFacts B newId initId bmB) (q : PySem.W.excIn X.K C bmB newId = true) (gC : X.mg x = some (.ref C)) (kC : PySem.W.keepIn X.K (.ref C) = true) (r : Raises X (.ref C)) (tk : Takes X W) (ha : PAd X W (e :: es) ta)
    (hc : X.calm = true := by rfl) (hg : Gl X x := by rfl) (hdb : (x == ("__debug__" : Str)) = false := by decide) (he : starEach (e :: es) X.env = (false, eval e X.env) :: starEach es X.env := by rfl) (hpl : (backTo pos (starEach es X.env)).any (·.1) = false := by rfl) :
    PSd X W (.Raise (some (.Call (.Name x p) (e :: es) [] pos)) none pos2) (dRaiseA C ta) :=
  PS.imp (ps_raise hc tk (pmk_ownA F q gC kC r hg ha hdb he hpl)) fun D σ H h => lowS_raiseA D σ H h
def dPar4 (i j l m : Nat) (t : DA) : DS := fun Δ st N => t Δ st (fun xs st1 => match xs with
  | [x, y, z, w] => N.nx ((((Δ.set i x).set j y).set l z).set m w) st1
  | _ => False) (exAt N Δ)
theorem lowS_parC4 {K : PySem.W.Frag} {W : WX} {i j l m : Nat} {t : DA} : ∀ D σ H, lowS K (dPar4 i j l m t) W D σ H → tAsg (tTup (lowA K t W)) (gTup K 4 (gCons (gName i) (gCons (gName j) (gCons (gName l) (gCons (gName m) gNil))))) D σ H := by
  rintro D σ H ⟨Δ, st, I, N, wd, sl, h, e⟩
  refine lowA_go wd sl h (fun xs st1 vs I1 H1 h1 w1 s1 i1 => ?_) (cx_of sl e)
  split at h1
  · cases i1 with
    | cons a i1 =>
      cases i1 with
      | cons b i1 =>
        cases i1 with
        | cons c i1 =>
          cases i1 with
          | cons d i1 =>
            cases i1
            refine ⟨by rw [sizeLine_eq]; simp only [List.length_cons, List.length_nil]; decide, fun p hp => ?_⟩
            obtain ⟨w2, s2⟩ := new_known (o := .tup _) w1 hp
            exact ⟨p, _, rfl, .inl (.inl upd_same), rfl, _, _, rfl, _, _, rfl, _, _, rfl, _, _, rfl, rfl, e.nx _ _ _ _ _ h1 w2 (s1.trans s2) ((((((sl.mono s1.ii).mono s2.ii).set (a.mono s2.ii)).set (b.mono s2.ii)).set (c.mono s2.ii)).set (d.mono s2.ii))⟩
  · exact h1.elim
theorem sparC4 {X : Cx} {W : WX} {x y z u : Str} {a b c d : Expr} {t : DA} {px py pz pu pt pos pt2 : Pos} {kt k2 : Nat} (i j l m : Nat) (hN : X.N.Nodup) (ha : PAd X W [a, b, c, d] t) (hc : X.calm = true := by rfl) (hi : X.N[i]? = some x := by rfl) (hj : X.N[j]? = some y := by rfl) (hl : X.N[l]? = some z := by rfl) (hm : X.N[m]? = some u := by rfl)
    (hx : Loc X.env.scope x := by first | exact Or.inl rfl | exact Or.inr rfl) (hy : Loc X.env.scope y := by first | exact Or.inl rfl | exact Or.inr rfl) (hz : Loc X.env.scope z := by first | exact Or.inl rfl | exact Or.inr rfl) (hu : Loc X.env.scope u := by first | exact Or.inl rfl | exact Or.inr rfl)
    (hfx : X.fn x = true ∨ X.env.scope.names.lookup x = some .local := by first | exact .inl rfl | exact .inr rfl | assumption) (hfy : X.fn y = true ∨ X.env.scope.names.lookup y = some .local := by first | exact .inl rfl | exact .inr rfl | assumption) (hfz : X.fn z = true ∨ X.env.scope.names.lookup z = some .local := by first | exact .inl rfl | exact .inr rfl | assumption) (hfu : X.fn u = true ∨ X.env.scope.names.lookup u = some .local := by first | exact .inl rfl | exact .inr rfl | assumption)
    (hw : swappedStores [.Tuple [.Name x px, .Name y py, .Name z pz, .Name u pu] kt pt] (.Tuple [a, b, c, d] k2 pt2) X.env = pure none := by rfl)
    (hs : swapsWithSole [.Tuple [.Name x px, .Name y py, .Name z pz, .Name u pu] kt pt] (.Tuple [a, b, c, d] k2 pt2) pos.line X.env = pure false := by rfl) : PSd X W (.Assign [.Tuple [.Name x px, .Name y py, .Name z pz, .Name u pu] kt pt] (.Tuple [a, b, c, d] k2 pt2) pos) (dPar4 i j l m t) :=
  PS.imp (ps_asg (pe_tup ha) (pg_tup hc (pgs_cons (pg_name hN hi hx hfx) (pgs_cons (pg_name hN hj hy hfy) (pgs_cons (pg_name hN hl hz hfz) (pgs_cons (pg_name hN hm hu hfu) pgs_nil))))) hs hw) lowS_parC4
def dPairs : List (DE × DE) → List Sv → Store → (List (Sv × Sv) → Store → Prop) → EK → Prop
  | [], _, st, ok, _ => ok [] st
  | (tk, tv) :: r, Δ, st, ok, ex => tk Δ st (fun y st1 => tv Δ st1 (fun z st2 => dPairs r Δ st2 (fun ps st3 => ok ((y, z) :: ps) st3) ex) ex) ex
def kSv : Key → Sv
  | .inl i => .dat (.int i)
  | .inr z => .dat (.str z)
def dDispN (ts : List (DE × DE)) : DE := fun Δ st ok ex => ∀ p, p ∉ keys st → dPairs ts Δ ((p, .dic []) :: st) (fun ps st' => ∃ (kds : List (Key × Dt)) (st3 : Store), ps = kds.map (fun kd => (kSv kd.1, .dat kd.2)) ∧ (kds.map (·.1)).Nodup ∧ kds.length ≤ 15 ∧ st' = (p, .dic []) :: st3 ∧ p ∉ keys st3 ∧ ok (.dat (.dic kds)) st3) ex
theorem low_pairs {K : PySem.W.Frag} {W : WX} : ∀ (ts : List (DE × DE)) {Δ : List Sv} {st : Store} {I H : Hp} {σ : L2.St} {ok : List (Sv × Sv) → Store → Prop} {ex : EK} {Q : List (V × V) → Hp → Prop}, Wd K st I H → Sl K Δ I σ → dPairs ts Δ st ok ex →
    (∀ ps st' vs I' H', ok ps st' → Wd K st' I' H' → Stp st I H st' I' H' → Paired (fun (a : Sv × Sv) (b : V × V) => IsS K I' a.1 b.1 ∧ IsS K I' a.2 b.2) ps vs → Q vs H') → (ContX K st I H ex fun cls d H' => W cls d σ H') → tPairs (ts.map fun t => (low K t.1 W, low K t.2 W)) σ H Q
  | [], Δ, st, I, H, σ, ok, ex, Q, wd, sl, h, c, cx => c _ _ _ _ _ h wd (Stp.refl _ _ _) .nil
  | (tk, tv) :: r, Δ, st, I, H, σ, ok, ex, Q, wd, sl, h, c, cx => by
    refine low_go wd sl h (fun y st1 v I1 H1 h1 w1 s1 i1 => ?_) cx
    refine low_go w1 (sl.mono s1.ii) h1 (fun z st2 u I2 H2 h2 w2 s2 i2 => ?_) (cx.go s1)
    refine low_pairs r w2 ((sl.mono s1.ii).mono s2.ii) h2 (fun ps st' vs I' H' h' w' s' i' => ?_) ((cx.go s1).go s2)
    exact c _ _ _ _ _ h' w' ((s1.trans s2).trans s') (.cons ⟨(i1.mono s2.ii).mono s'.ii, i2.mono s'.ii⟩ i')
theorem pairs_are {K : PySem.W.Frag} {I : Hp} : ∀ {kds : List (Key × Dt)} {vs : List (V × V)}, Paired (fun (a : Sv × Sv) (b : V × V) => IsS K I a.1 b.1 ∧ IsS K I a.2 b.2) (kds.map fun kd => (kSv kd.1, Sv.dat kd.2)) vs → ∃ kvs : List (Key × V), vs = kvs.map (fun kv => (kV kv.1, kv.2)) ∧ kvs.map (·.1) = kds.map (·.1) ∧ IsDk K I kds kvs
  | [], _, .nil => ⟨[], rfl, rfl, .nil⟩
  | (k, d) :: kds, _, .cons (b := b) a r => by
    obtain ⟨kvs, e1, e2, e3⟩ := pairs_are r
    obtain ⟨a1, a2⟩ := a
    obtain ⟨b1, b2⟩ := b
    cases a2 with
    | dat h2 =>
      refine ⟨(k, b2) :: kvs, ?_, by rw [List.map_cons, List.map_cons, e2], .cons h2 e3⟩
      rw [List.map_cons, e1]
      have : b1 = kV k := by
        cases k with
        | inl i => cases a1 with | dat z => cases z; rfl
        | inr s => cases a1 with | dat z => cases z; rfl
      rw [this]
theorem putK_new : ∀ {kvs : List (Key × V)} {k : Key} {v : V}, k ∉ kvs.map (·.1) → putK kvs k v = kvs ++ [(k, v)] := by
  intro kvs k v h
  unfold putK
  rw [if_neg]
  intro z
  obtain ⟨x, hx, e⟩ := List.any_eq_true.mp z
  have e : x.1 = k := by simpa using e
  exact h (List.mem_map.mpr ⟨x, hx, e⟩)
theorem mergeK_nd : ∀ (more kvs : List (Key × V)), ((kvs ++ more).map (·.1)).Nodup → mergeK kvs more = kvs ++ more
  | [], kvs, _ => (List.append_nil kvs).symm
  | (k, v) :: r, kvs, h => by
    have hk : k ∉ kvs.map (·.1) := fun z => by
      rw [List.map_append] at h
      exact (List.nodup_append.mp h).2.2 k z k (by simp) rfl
    show mergeK (putK kvs k v) r = _
    rw [putK_new hk, mergeK_nd r (kvs ++ [(k, v)]) (by rwa [List.append_assoc]), List.append_assoc]
    rfl
theorem low_dispN {K : PySem.W.Frag} {W : WX} {ts : List (DE × DE)} : ∀ σ H Q, low K (dDispN ts) W σ H Q → tDisp (ts.map fun t => (low K t.1 W, low K t.2 W)) σ H Q := by
  rintro σ H Q ⟨Δ, st, I, ok, ex, wd, sl, h, c, cx⟩
  intro p hp
  obtain ⟨np, w0, s0⟩ := new_own (o := .dK []) (ob := .dic []) wd hp (.dic .nil)
  refine low_pairs ts w0 (sl.mono s0.ii) (h p np) (fun ps st' vs I2 H2 h2 w2 s2 i2 => ?_) (cx.go s0)
  obtain ⟨kds, st3, rfl, hnd, h15, rfl, np3, h2⟩ := h2
  obtain ⟨ip, o, ho, io⟩ := w2.own p _ List.mem_cons_self
  cases io with
  | dic hs =>
    cases hs
    obtain ⟨kvs, rfl, ek, hk⟩ := pairs_are i2
    have hl : kvs.length = kds.length := by
      have := congrArg List.length ek
      rwa [List.length_map, List.length_map] at this
    refine ⟨ho, kvs, rfl, by omega, ?_⟩
    rw [mergeK_nd kvs [] (by rw [List.nil_append, ek]; exact hnd), List.nil_append]
    have hkk : ∀ {kds : List (Key × Dt)} {kvs : List (Key × V)}, IsDk K I2 kds kvs → Paired (RK K I2) (kds.map fun kd => (kd.1, Sv.dat kd.2)) kvs := by
      intro kds kvs h
      induction kds generalizing kvs with
      | nil => cases h; exact .nil
      | cons x xs ih => cases h with | cons a r => exact .cons ⟨rfl, .dat a⟩ (ih r)
    obtain ⟨w3, s3⟩ := set_own (j := 0) (o' := .dK kvs) (ob' := .dic (kds.map fun kd => (kd.1, .dat kd.2))) w2 rfl (.dic (hkk hk))
    have hall : ∀ ks : List (Key × Dt), AllK (ks.map fun kd => (kd.1, Sv.dat kd.2)) ks := fun ks => by
      induction ks with
      | nil => exact .nil
      | cons x xs ih => exact .cons ih
    obtain ⟨I', w4, s4, i4⟩ := fin_ok (s := .own p) (s' := .dat (.dic kds)) (st' := st3) w3 ((s0.trans s2).trans s3) (.own p) (.pub (j := 0) rfl (.dic (hall kds)) np3 (.cons _ (List.Sublist.refl _)))
    exact c _ _ _ _ _ h2 w4 s4 i4
/-- the pairs' derivations -/
inductive PPd (X : Cx) (W : WX) : List (Option Expr) → List Expr → List (DE × DE) → Prop where
  | nil : PPd X W [] [] []
  | cons {k v : Expr} {tk tv : DE} {ks : List (Option Expr)} {vs : List Expr} {ts : List (DE × DE)} (hk : PEd X W k tk) (hv : PEd X W v tv) (r : PPd X W ks vs ts) : PPd X W (some k :: ks) (v :: vs) ((tk, tv) :: ts)
theorem PPd.pp {X : Cx} {W : WX} {pos : Pos} {ks : List (Option Expr)} {vs : List Expr} {ts : List (DE × DE)} (h : PPd X W ks vs ts) : PPs X pos ks vs (ts.map fun t => (low X.K t.1 W, low X.K t.2 W)) ∧ ks.all (·.isSome) = true ∧ ks.length = vs.length := by
  induction h with
  | nil => exact ⟨pps_nil, rfl, rfl⟩
  | cons hk hv r ih => exact ⟨pps_cons hk hv ih.1, by rw [List.all_cons, ih.2.1]; rfl, by rw [List.length_cons, List.length_cons, ih.2.2]⟩
theorem ddispN {X : Cx} {W : WX} {k v : Expr} {ks : List (Option Expr)} {vs : List Expr} {ts : List (DE × DE)} {pos : Pos} (h : PPd X W (some k :: ks) (v :: vs) ts) (h15 : (some k :: ks).length ≤ 15 := by decide) : PEd X W (.Dict (some k :: ks) (v :: vs) pos) (dDispN ts) :=
  PE.imp (pe_disp (h.pp (pos := pos)).1 (h.pp (pos := pos)).2.1 (h.pp (pos := pos)).2.2 (List.cons_ne_nil _ _) h15) low_dispN
end DD
namespace SP
open PySem PySem.Spec PyProof.Rows L2 DD
structure SmallU (x : Str × Snd) : Prop where
  t : SmallT x
  l : x.2.end_ ≤ x.2.begin_ + 19
@[irreducible] def ctLSendsU : Ct := fun ss st ok _ => ∃ (p q : Addr) (a i : Int) (xs : List Int) (st0 : Store) (m : Int), ss = [.own p, dI m] ∧ st = (p, obH q a i) :: (q, obX xs) :: st0 ∧ xs.length ≤ 63 ∧ 0 ≤ m ∧ m ≤ 7 ∧
  ∀ l a' i' xs', LOk l → (∀ x ∈ l, SmallU x) → l.length ≤ m.toNat → xs'.length ≤ 63 → ok (.dat (dicD sndT l)) ((p, obH q a' i') :: (q, obX xs') :: st0)
theorem ctLSendsU_eq {ss : List Sv} {st : Store} {ok : OK} {ex : EK} : ctLSendsU ss st ok ex = ∃ (p q : Addr) (a i : Int) (xs : List Int) (st0 : Store) (m : Int), ss = [.own p, dI m] ∧ st = (p, obH q a i) :: (q, obX xs) :: st0 ∧ xs.length ≤ 63 ∧ 0 ≤ m ∧ m ≤ 7 ∧
  ∀ l a' i' xs', LOk l → (∀ x ∈ l, SmallU x) → l.length ≤ m.toNat → xs'.length ≤ 63 → ok (.dat (dicD sndT l)) ((p, obH q a' i') :: (q, obX xs') :: st0) := by unfold ctLSendsU; rfl
@[irreducible] def ctLDrawnU : Ct := fun ss st ok _ => ∃ (p q : Addr) (a i : Int) (xs : List Int) (st0 : Store) (m : Int), ss = [.own p, dI m] ∧ st = (p, obH q a i) :: (q, obX xs) :: st0 ∧ p ≠ q ∧ p ∉ keys st0 ∧ q ∉ keys st0 ∧ xs.length ≤ 63 ∧ 0 ≤ m ∧ m ≤ 7 ∧
  ∀ b l a' i' xs', BOk b → b.rules.length ≤ 4 → (∀ x ∈ b.rules, SmallR x) → b.seen.length ≤ 1 → LOk l → (∀ x ∈ l, SmallU x) → l.length ≤ m.toNat → xs'.length ≤ 63 → ok (.dat (drawnD b l)) ((p, obH q a' i') :: (q, obX xs') :: st0)
theorem ctLDrawnU_eq {ss : List Sv} {st : Store} {ok : OK} {ex : EK} : ctLDrawnU ss st ok ex = ∃ (p q : Addr) (a i : Int) (xs : List Int) (st0 : Store) (m : Int), ss = [.own p, dI m] ∧ st = (p, obH q a i) :: (q, obX xs) :: st0 ∧ p ≠ q ∧ p ∉ keys st0 ∧ q ∉ keys st0 ∧ xs.length ≤ 63 ∧ 0 ≤ m ∧ m ≤ 7 ∧
  ∀ b l a' i' xs', BOk b → b.rules.length ≤ 4 → (∀ x ∈ b.rules, SmallR x) → b.seen.length ≤ 1 → LOk l → (∀ x ∈ l, SmallU x) → l.length ≤ m.toNat → xs'.length ≤ 63 → ok (.dat (drawnD b l)) ((p, obH q a' i') :: (q, obX xs') :: st0) := by unfold ctLDrawnU; rfl
def OddM (d : Dt) : Prop := Pln d ∧ isNum d 1 1000000 = false
def ctChkNumX (I : Addr) : Ct := fun ss st ok ex => ctChkNum I ss st ok ex ∨ ∃ d, ss = [.dat d, dI 1, dI 1000000] ∧ OddM d ∧ ex ⟨I, []⟩ st
def ctDiskX (c : Cl) (I : Addr) : Ct := fun ss st ok ex => ctDisk c ss st ok ex ∨ (∃ (b : Bk) (l : Lst) (d : Dt) (m t : Sv), ss = [.dat (b.d c), .dat (lstD c l), .dat d, m, t] ∧ OddK d ∧ ex ⟨I, []⟩ st) ∨
  ∃ (b : Bk) (l : Lst) (k : Nat) (d : Dt) (t : Sv), ss = [.dat (b.d c), .dat (lstD c l), dI (k : Int), .dat d, t] ∧ BOk b ∧ LOk l ∧ 1 ≤ k ∧ k ≤ 10 ∧ OddM d ∧ ex ⟨I, []⟩ st
def ctLeastDiskX (c : Cl) (I : Addr) : Ct := fun ss st ok ex => ctLeastDisk c ss st ok ex ∨ ∃ (b : Bk) (l : Lst) (d : Dt) (t : Sv), ss = [.dat (b.d c), .dat (lstD c l), .dat d, t] ∧ OddK d ∧ ex ⟨I, []⟩ st
theorem odd_m {n : Int} (h0 : 0 ≤ n) (h1 : n < 3) : ∃ d, OddM d ∧ atI [Sv.dat (.int 0), .dat (.int 1000001), .dat (.bl true)] n = some (.dat d) := by
  have : n = 0 ∨ n = 1 ∨ n = 2 := by omega
  rcases this with rfl | rfl | rfl
  · exact ⟨.int 0, ⟨trivial, by decide⟩, rfl⟩
  · exact ⟨.int 1000001, ⟨trivial, by decide⟩, rfl⟩
  · exact ⟨.bl true, ⟨trivial, by decide⟩, rfl⟩
abbrev Tr := Int × Str × Int
def trD (r : Tr) : Dt := .tup [.int r.1, .str r.2.1, .int r.2.2]
def trP (r : Tr) : PyData := .tuple [.int r.1, .str r.2.1, .int r.2.2]
abbrev trLe : Tr → Tr → Bool := PySem.W.dataLe false trP
theorem tr_of (r : Tr) : PyOf (trD r) (trP r) := .tup (.cons (.int _) (.cons (.str _) (.cons (.int _) .nil)))
theorem tr_alike (rs : List Tr) : PySem.W.AllAlike (rs.map trP) := by
  intro d hd d' hd'
  obtain ⟨r, _, rfl⟩ := List.mem_map.mp hd
  obtain ⟨r', _, rfl⟩ := List.mem_map.mp hd'
  simp [trP, PySem.W.alike, PySem.W.alikeAll]
theorem tr_sortable (rs : List Tr) : PySem.W.Sortable (rs.map trP) := by
  refine .inl fun d hd => ?_
  obtain ⟨r, _, rfl⟩ := List.mem_map.mp hd
  exact ⟨_, _, rfl⟩
theorem tr_depth (r : Tr) : (trP r).depth ≤ 30 := by simp [trP, PyData.depth, PyData.depthAll]
theorem tr_bn {x y : Tr} (h : trLe x y = true) : bnLe (x.1, x.2.1) (y.1, y.2.1) = true := by
  unfold trLe at h
  unfold bnLe
  rw [PySem.W.dataLe_eq] at h ⊢
  dsimp only [cond] at h ⊢
  have h1 : PySem.W.dataLt (trP y) (trP x) = false := by simpa using h
  unfold trP at h1
  rw [PySem.W.dataLt_tuple, PySem.W.dataLt_cons (by simp [PySem.W.alike]), PySem.W.dataLt_cons (by simp [PySem.W.alike]), PySem.W.dataLt_cons (by simp [PySem.W.alike])] at h1
  have : PySem.W.dataLt (bnP (y.1, y.2.1)) (bnP (x.1, x.2.1)) = false := by
    unfold bnP
    rw [PySem.W.dataLt_pair (by simp [PySem.W.alike]) (by simp [PySem.W.alike])]
    dsimp only
    by_cases e : PyData.eqv (.int y.1) (.int x.1) = true
    · rw [if_pos e] at h1 ⊢
      by_cases e2 : PyData.eqv (.str y.2.1) (.str x.2.1) = true
      · rw [if_pos e2]
      · rw [if_neg e2] at h1 ⊢
        exact h1
    · rw [if_neg e] at h1 ⊢
      exact h1
  rw [this]
  rfl
def rowsT (b : Bk) (l : Lst) (p : Plan) : List Tr := p.map fun x => ((winOf (windows b l) x.1).1, x.1, (winOf (windows b l) x.1).2 - (winOf (windows b l) x.1).1)
theorem rowsT_sizes {b : Bk} {l : Lst} (hl : LOk l) (k : Nat) : ((rowsT b l (taken b l k)).mergeSort trLe).map (fun r => (r.2.1, r.2.2)) = sizesOf b l k := by
  obtain ⟨T, hT⟩ : ∃ T, T = (rowsT b l (taken b l k)).mergeSort trLe := ⟨_, rfl⟩
  have hp : T.Perm (rowsT b l (taken b l k)) := by rw [hT]; exact List.mergeSort_perm _ _
  have hw : T.Pairwise fun a b => trLe a b = true := by rw [hT]; exact List.pairwise_mergeSort (data_trans trP) (data_total trP) _
  rw [← hT]
  have hpo : (ownPlan b l k).map (·.1) |>.Perm ((taken b l k).map (·.1)) := by
    rw [own_names]
    exact sortN_perm _
  have e1 : T.map (fun r => ((r.1, r.2.1) : Bn)) = btRows (winsOf b l ((ownPlan b l k).map (·.1))) := by
    unfold btRows
    refine sort_unique (data_trans bnP) (data_total bnP) (data_anti bnP bn_toks) ?_ ?_
    · refine (hp.map _).trans ?_
      unfold rowsT winsOf
      rw [List.map_map, List.map_map]
      have := (hpo.map fun n => (((winOf (windows b l) n).1, n) : Bn)).symm
      rw [List.map_map] at this
      exact this
    · exact List.pairwise_map.mpr (hw.imp fun h => tr_bn h)
  have e2 : T.map (·.2.1) = btn (winsOf b l ((ownPlan b l k).map (·.1))) := by
    unfold btn
    rw [← e1, List.map_map]
    rfl
  unfold sizesOf
  rw [← e2, List.map_map]
  refine List.map_congr_left fun r hr => ?_
  have := hp.mem_iff.mp hr
  unfold rowsT at this
  obtain ⟨x, _, rfl⟩ := List.mem_map.mp this
  rfl
def sizesT (b : Bk) (l : Lst) (p : Plan) : Sz := ((rowsT b l p).mergeSort trLe).map fun r => (r.2.1, r.2.2)
def ctLStored : Ct := ctDr (fun a : Plan × Int × List Str => [.dat (takenD a.1), dI a.2.1, .dat (nsD a.2.2)]) (fun b l a => (∃ k, k ≤ 10 ∧ a.1 = taken b l k) ∧ ∀ n ∈ a.2.2, isWord n = true) fun b l a => dkD (diskOf (sizesT b l a.1) a.2.2 a.2.1)
theorem look_permN {α : Type} {xs ys : List (Str × α)} (nd : (xs.map (·.1)).Nodup) (h : xs.Perm ys) (n : Str) : look xs n = look ys n := by
  have nd2 : (ys.map (·.1)).Nodup := (h.map _).nodup_iff.mp nd
  cases e : look xs n with
  | some v => exact (look_mem nd2 (h.mem_iff.mp (look_in e))).symm
  | none =>
    cases e2 : look ys n with
    | none => rfl
    | some v =>
      have := look_mem nd (h.mem_iff.mpr (look_in e2))
      rw [e] at this
      cases this
theorem at_last {α : Type} (xs : List α) (x : α) : atI (xs ++ [x]) (-1) = some x := by
  unfold atI ixN
  rw [if_neg (by decide), List.length_append, List.length_singleton, if_pos (by omega)]
  show (xs ++ [x])[((xs.length + 1 : Nat) + (-1 : Int)).toNat]? = some x
  rw [show ((xs.length + 1 : Nat) + (-1 : Int)).toNat = xs.length from by omega]
  simp
theorem evict_safe {sz : Sz} {t : List Str} {m s : Int} : ∀ (n : Nat) (k d : List Str), (evict sz t m s n (k, d)).1.filter (isIn t) = k.filter (isIn t)
  | 0, k, d => rfl
  | n + 1, k, d => by
    rw [evict]
    split
    · dsimp only
      split
      · rfl
      · rename_i e es he
        rw [evict_safe n]
        have hm := List.mem_filter.mp (show e ∈ k.filter fun o => !isIn t o by rw [he]; exact List.mem_cons_self)
        exact filter_erase (by simpa using hm.2) _
    · rfl
theorem ref_step {sz : Sz} {t : List Str} {m : Int} {a : Dk} {x : Str × Int} {pre : Sz} (hk : a.ref = [] → a.kept.filter (isIn t) = (pre.map (·.1)).filter (isIn t)) : ((dkStep sz t m a x).ref = [] ↔ a.ref = [] ∧ x.2 + mins sz ((pre.map (·.1)).filter (isIn t)) ≤ m) ∧
    ((dkStep sz t m a x).ref = [] → (dkStep sz t m a x).kept.filter (isIn t) = ((pre ++ [x]).map (·.1)).filter (isIn t)) := by
  by_cases c : m - mins sz (a.kept.filter (isIn t)) < x.2
  · have e : dkStep sz t m a x = ⟨a.kept, a.del, a.ref ++ [x.1]⟩ := by unfold dkStep; rw [if_pos c]
    rw [e]
    dsimp only
    have n1 : a.ref ++ [x.1] ≠ [] := by simp
    refine ⟨⟨fun z => absurd z n1, fun ⟨z1, z2⟩ => ?_⟩, fun z => absurd z n1⟩
    rw [hk z1] at c
    omega
  · have e : dkStep sz t m a x = ⟨(evict sz t m x.2 a.kept.length (a.kept, a.del)).1 ++ [x.1], (evict sz t m x.2 a.kept.length (a.kept, a.del)).2, a.ref⟩ := by unfold dkStep; rw [if_neg c]
    rw [e]
    dsimp only
    refine ⟨⟨fun z => ⟨z, ?_⟩, fun z => z.1⟩, fun z => ?_⟩
    · rw [hk z] at c
      omega
    · rw [List.filter_append, evict_safe, hk z, List.map_append, List.filter_append]
      rfl
theorem ref_pre (sz : Sz) (t : List Str) (m : Int) : ∀ (post pre : Sz) (a : Dk), (a.ref = [] → a.kept.filter (isIn t) = (pre.map (·.1)).filter (isIn t)) →
    ((post.foldl (dkStep sz t m) a).ref = [] ↔ a.ref = [] ∧ ∀ (i : Nat) (x : Str × Int), post[i]? = some x → x.2 + mins sz (((pre ++ post.take i).map (·.1)).filter (isIn t)) ≤ m)
  | [], pre, a, _ => ⟨fun h => ⟨h, fun i x hx => by simp at hx⟩, fun h => h.1⟩
  | e :: es, pre, a, hk => by
    obtain ⟨h1, h2⟩ := ref_step (sz := sz) (m := m) (x := e) hk
    rw [List.foldl_cons, ref_pre sz t m es (pre ++ [e]) _ h2, h1]
    refine ⟨fun ⟨⟨z1, z2⟩, z3⟩ => ⟨z1, fun i x hx => ?_⟩, fun ⟨z1, z2⟩ => ⟨⟨z1, ?_⟩, fun i x hx => ?_⟩⟩
    · cases i with
      | zero =>
        obtain rfl : e = x := by simpa using hx
        rw [List.take_zero, List.append_nil]
        exact z2
      | succ i =>
        have := z3 i x (by simpa using hx)
        rw [List.append_assoc] at this
        rw [List.take_succ_cons]
        exact this
    · have := z2 0 e rfl
      rwa [List.take_zero, List.append_nil] at this
    · have := z2 (i + 1) x (by simpa using hx)
      rw [List.take_succ_cons] at this
      rw [List.append_assoc]
      exact this
theorem needs_mem {sz : Sz} (hs : SzOk sz) {t : List Str} {m : Int} : (∀ z ∈ needs sz t, z ≤ m) ↔ ∀ (i : Nat) (x : Str × Int), sz[i]? = some x → x.2 + mins sz (((sz.take i).map (·.1)).filter (isIn t)) ≤ m := by
  unfold needs
  constructor
  · intro h i x hx
    have hm := List.mem_of_getElem? hx
    have := h (need1 sz t (x.1, i)) (List.mem_map.mpr ⟨(x.1, i), List.mem_zipIdx_iff_getElem?.mpr (by rw [List.getElem?_map, hx]; rfl), rfl⟩)
    unfold need1 at this
    rw [hs.look hm] at this
    rw [List.map_take]
    exact this
  · intro h z hz
    obtain ⟨y, hy, rfl⟩ := List.mem_map.mp hz
    have h2 := List.mem_zipIdx_iff_getElem?.mp hy
    rw [List.getElem?_map] at h2
    obtain ⟨x, hx, e⟩ := Option.map_eq_some_iff.mp h2
    have := h y.2 x hx
    unfold need1
    rw [← e, hs.look (List.mem_of_getElem? hx)]
    rw [List.map_take] at this
    exact this
theorem ref_nil {sz : Sz} (hs : SzOk sz) {t : List Str} {m : Int} : (diskOf sz t m).ref = [] ↔ ∀ z ∈ needs sz t, z ≤ m := by
  rw [needs_mem hs]
  unfold diskOf
  rw [ref_pre sz t m sz [] ⟨[], [], []⟩ (fun _ => rfl)]
  simp
theorem foldl_max_le {m : Int} : ∀ (xs : List Int) (a : Int), xs.foldl max a ≤ m ↔ a ≤ m ∧ ∀ z ∈ xs, z ≤ m
  | [], a => by simp
  | x :: xs, a => by
    rw [List.foldl_cons, foldl_max_le xs]
    simp only [List.mem_cons, forall_eq_or_imp, Int.max_le, and_assoc]
theorem ref_least {sz : Sz} (hs : SzOk sz) {t : List Str} {m : Int} (h1 : 1 ≤ m) : (diskOf sz t m).ref = [] ↔ (needs sz t).foldl max 1 ≤ m := by
  rw [ref_nil hs, foldl_max_le]
  simp [h1]
theorem mins_le {sz : Sz} {M : Int} (h0 : 0 ≤ M) (hs : ∀ x ∈ sz, x.2 ≤ M) : ∀ ns : List Str, mins sz ns ≤ M * ns.length
  | [] => by simp [mins]
  | n :: ns => by
    have h1 := mins_le h0 hs ns
    have h2 : (look sz n).getD 0 ≤ M := by
      cases e : look sz n with
      | none => exact h0
      | some v => exact hs (n, v) (look_in e)
    rw [mins_cons, List.length_cons]
    have : M * ((ns.length + 1 : Nat) : Int) = M * ns.length + M := by rw [Int.natCast_add, Int.mul_add]; simp
    rw [this]
    omega
theorem need_bound {sz : Sz} (hs : SzOk sz) (h27 : ∀ x ∈ sz, x.2 ≤ 27) (t : List Str) : 1 ≤ (needs sz t).foldl max 1 ∧ (needs sz t).foldl max 1 < 400 := by
  have h1 : (needs sz t).foldl max 1 ≤ 297 := by
    rw [foldl_max_le, needs_mem hs]
    refine ⟨by decide, fun i x hx => ?_⟩
    have a := h27 x (List.mem_of_getElem? hx)
    have b := mins_le (by decide : (0 : Int) ≤ 27) h27 (((sz.take i).map (·.1)).filter (isIn t))
    have c : ((((sz.take i).map (·.1)).filter (isIn t)).length : Int) ≤ 10 := by
      have h1 := List.length_filter_le (isIn t) ((sz.take i).map (·.1))
      rw [List.length_map, List.length_take] at h1
      have := hs.len
      omega
    omega
  have h2 := (foldl_max_le (m := (needs sz t).foldl max 1) (needs sz t) 1).mp (Int.le_refl _)
  exact ⟨h2.1, by omega⟩
theorem size_small {b : Bk} {l : Lst} (hb : BOk b) (hl : LOk l) (hr : ∀ x ∈ b.rules, SmallR x) (hu : ∀ x ∈ l, SmallU x) (k : Nat) : ∀ x ∈ sizesOf b l k, x.2 ≤ 27 := by
  intro x hx
  have hn := own_wn hl x.1 ((sizes_perm b l k).mem_iff.mp (List.mem_map.mpr ⟨x, hx, rfl⟩))
  unfold sizesOf at hx
  obtain ⟨n, _, rfl⟩ := List.mem_map.mp hx
  obtain ⟨w, hw, e⟩ := List.mem_map.mp hn
  have e : w.n = n := e
  subst e
  dsimp only
  rw [win_is hl hw]
  obtain ⟨h1, h2⟩ := wished_mem.mp hw
  have u := (hu _ h1).l
  have hri : w.r ∈ b.rules := by
    unfold ruleFor ruleOf at h2
    split at h2
    · cases h2
    · exact List.mem_of_find?_eq_some h2
  have r := hr _ hri
  have r1 := r.a
  have r2 := r.b
  unfold Wi.win
  dsimp only at u ⊢
  split <;> omega
theorem first_least {M : Int} (h1 : 1 ≤ M) (h2 : M < 400) : ((List.range 399).filter fun i : Nat => decide (M ≤ 1 + (i : Int)))[0]? = some (M - 1).toNat := by
  rw [← List.head?_eq_getElem?, ← find_filter, List.find?_range_eq_some]
  refine ⟨decide_eq_true (by omega), List.mem_range.mpr (by omega), fun j hj => ?_⟩
  simp
  omega
def antS : Snd := ⟨"one", "news", 1, 0, 1000000, 0⟩
def beeS : Snd := ⟨"one", "news", 2, 0, 100000, 0⟩
def longL : Lst := [("ant", antS), ("bee", beeS)]
def rulA : Rul := ⟨"news", 1, 2, 3, 0, 0⟩
def rulB : Rul := ⟨"news", 2, 2, 3, 0, 0⟩
def bkA : Bk := ⟨[rulA], []⟩
def bkB : Bk := ⟨[rulB], []⟩
theorem antS_ok : SOk antS := by refine ⟨by decide +kernel, by decide +kernel, ?_, ?_, ?_, ?_, ?_, ?_, ?_, ?_⟩ <;> decide
theorem beeS_ok : SOk beeS := by refine ⟨by decide +kernel, by decide +kernel, ?_, ?_, ?_, ?_, ?_, ?_, ?_, ?_⟩ <;> decide
theorem longL_ok : LOk longL := ⟨by decide, by decide +kernel, fun x hx => by
  simp only [longL, List.mem_cons, List.not_mem_nil, or_false] at hx
  rcases hx with rfl | rfl
  · exact ⟨by decide +kernel, by refine ⟨by decide +kernel, by decide +kernel, ?_, ?_, ?_, ?_, ?_, ?_, ?_, ?_⟩ <;> decide⟩
  · exact ⟨by decide +kernel, by refine ⟨by decide +kernel, by decide +kernel, ?_, ?_, ?_, ?_, ?_, ?_, ?_, ?_⟩ <;> decide⟩⟩
theorem bk1_ok {r : Rul} (h : ROk r) : BOk ⟨[r], []⟩ := ⟨(by show 1 ≤ 6; decide), fun x hx => by rw [List.mem_singleton.mp hx]; exact h, (by show 0 ≤ 63; decide), fun x hx => by cases hx⟩
theorem rulA_ok : ROk rulA := ⟨by decide +kernel, by decide, by decide, by decide, by decide, by decide, by decide, by decide, by decide, by decide⟩
theorem rulB_ok : ROk rulB := ⟨by decide +kernel, by decide, by decide, by decide, by decide, by decide, by decide, by decide, by decide, by decide⟩
theorem wishedA : wished bkA longL = [⟨"ant", antS, rulA⟩, ⟨"bee", beeS, rulA⟩] := by with_unfolding_all rfl
theorem wishedB : wished bkB longL = [⟨"bee", beeS, rulB⟩] := by with_unfolding_all rfl
theorem rowsA : sortedRows bkA longL = ([(-3, 0, ("news", 1)), (-3, 0, ("news", 2))] : List SP.Row) := by
  unfold sortedRows
  rw [wishedA]
  exact List.mergeSort_of_pairwise (by decide +kernel)
theorem rowsB : sortedRows bkB longL = ([(-3, 0, ("news", 2))] : List SP.Row) := by
  unfold sortedRows
  rw [wishedB]
  exact List.mergeSort_of_pairwise (by decide +kernel)
theorem wishesA : wishes bkA longL = ([("news", 1), ("news", 2)] : List Ep) := by
  unfold wishes
  rw [rowsA]
  decide +kernel
theorem wishesB : wishes bkB longL = ([("news", 2)] : List Ep) := by
  unfold wishes
  rw [rowsB]
  decide +kernel
theorem sendsA1 : sendsOf bkA longL ("news", 1) = (["ant"] : List Str) := by
  unfold sendsOf bnOf
  rw [wishedA, show (([⟨"ant", antS, rulA⟩, ⟨"bee", beeS, rulA⟩] : List Wi).filter fun x => decide (x.s.ep = (("news", 1) : Ep))).map Wi.bn = ([(0, "ant")] : List Bn) from by with_unfolding_all rfl, List.mergeSort_singleton]
  rfl
theorem sendsA2 : sendsOf bkA longL ("news", 2) = (["bee"] : List Str) := by
  unfold sendsOf bnOf
  rw [wishedA, show (([⟨"ant", antS, rulA⟩, ⟨"bee", beeS, rulA⟩] : List Wi).filter fun x => decide (x.s.ep = (("news", 2) : Ep))).map Wi.bn = ([(0, "bee")] : List Bn) from by with_unfolding_all rfl, List.mergeSort_singleton]
  rfl
theorem sendsB2 : sendsOf bkB longL ("news", 2) = (["bee"] : List Str) := by
  unfold sendsOf bnOf
  rw [wishedB, show (([⟨"bee", beeS, rulB⟩] : List Wi).filter fun x => decide (x.s.ep = (("news", 2) : Ep))).map Wi.bn = ([(0, "bee")] : List Bn) from by with_unfolding_all rfl, List.mergeSort_singleton]
  rfl
theorem winsA : windows bkA longL = ([("ant", (0, 1000000)), ("bee", (0, 100000))] : List (Str × Win)) := by
  unfold windows
  rw [wishedA]
  with_unfolding_all rfl
theorem winsB : windows bkB longL = ([("bee", (0, 100000))] : List (Str × Win)) := by
  unfold windows
  rw [wishedB]
  with_unfolding_all rfl
theorem sortN_one (n : Str) : sortN [n] = [n] := List.mergeSort_singleton _
theorem onRec_nil (ws : List (Str × Win)) (r : Int) (w : Win) : onRecW ws [] r w = [] := by
  unfold onRecW
  rw [List.map_nil, show sortN [] = [] from List.mergeSort_nil]
  rfl
theorem takenA : taken bkA longL 1 = ([("ant", 0)] : Plan) := by
  unfold taken
  rw [wishesA]
  have e1 : takeStep bkA longL 1 [] ("news", 1) = ([("ant", 0)] : Plan) := by
    unfold takeStep
    rw [sendsA1]
    unfold firstFree freeAt
    rw [show List.range 1 = [0] from rfl, List.find?_cons]
    unfold onRec
    rw [onRec_nil]
    rfl
  have e2 : takeStep bkA longL 1 ([("ant", 0)] : Plan) ("news", 2) = ([("ant", 0)] : Plan) := by
    unfold takeStep
    rw [sendsA2]
    unfold firstFree freeAt
    rw [show List.range 1 = [0] from rfl, List.find?_cons]
    unfold onRec onRecW
    rw [winsA, show (([("ant", 0)] : Plan).map (·.1)) = (["ant"] : List Str) from rfl, sortN_one]
    with_unfolding_all rfl
  rw [List.foldl_cons, e1, List.foldl_cons, e2]
  rfl
theorem takenB : taken bkB longL 1 = ([("bee", 0)] : Plan) := by
  unfold taken
  rw [wishesB]
  have e1 : takeStep bkB longL 1 [] ("news", 2) = ([("bee", 0)] : Plan) := by
    unfold takeStep
    rw [sendsB2]
    unfold firstFree freeAt
    rw [show List.range 1 = [0] from rfl, List.find?_cons]
    unfold onRec
    rw [onRec_nil]
    rfl
  rw [List.foldl_cons, e1]
  rfl
theorem tr_one (r : Tr) : [r].mergeSort trLe = [r] := List.mergeSort_singleton _
theorem sizesA : sizesOf bkA longL 1 = ([("ant", 1000000)] : Sz) := by
  rw [← rowsT_sizes longL_ok, takenA]
  unfold rowsT
  rw [winsA, show (([("ant", 0)] : Plan).map fun x => ((winOf ([("ant", (0, 1000000)), ("bee", (0, 100000))] : List (Str × Win)) x.1).1, x.1, (winOf ([("ant", (0, 1000000)), ("bee", (0, 100000))] : List (Str × Win)) x.1).2 - (winOf ([("ant", (0, 1000000)), ("bee", (0, 100000))] : List (Str × Win)) x.1).1)) = ([(0, "ant", 1000000)] : List Tr) from by with_unfolding_all rfl, tr_one]
  rfl
theorem sizesB : sizesOf bkB longL 1 = ([("bee", 100000)] : Sz) := by
  rw [← rowsT_sizes longL_ok, takenB]
  unfold rowsT
  rw [winsB, show (([("bee", 0)] : Plan).map fun x => ((winOf ([("bee", (0, 100000))] : List (Str × Win)) x.1).1, x.1, (winOf ([("bee", (0, 100000))] : List (Str × Win)) x.1).2 - (winOf ([("bee", (0, 100000))] : List (Str × Win)) x.1).1)) = ([(0, "bee", 100000)] : List Tr) from by with_unfolding_all rfl, tr_one]
  rfl
theorem leastA : leastOf (sizesOf bkA longL 1) [] = none := by
  rw [sizesA]
  decide +kernel
theorem leastB : leastOf (sizesOf bkB longL 1) [] = some 100000 := by
  rw [sizesB]
  decide +kernel
end SP
namespace SP
open PySem PySem.Spec PyProof.Rows L2 DD
structure Sim (φ : Int → Int) (σ : Wi → Wi) (b : Bk) (l : Lst) (b' : Bk) (l' : Lst) : Prop where
  ok : LOk l
  ok' : LOk l'
  w : wished b' l' = (wished b l).map σ
  n : ∀ w, (σ w).n = w.n
  ep : ∀ w, (σ w).s.ep = w.s.ep
  pr : ∀ w, (σ w).r.priority = w.r.priority
  beg : ∀ w ∈ wished b l, (σ w).s.begin_ = φ w.s.begin_
  win : ∀ w ∈ wished b l, (σ w).win = (φ w.win.1, φ w.win.2)
  mono : ∀ x y, φ x < φ y ↔ x < y
  eps : ∀ n, epAt l' n = epAt l n
  sure : ∀ w ∈ wished b l, ((σ w).s.late ≤ (σ w).r.after ↔ w.s.late ≤ w.r.after)
section
variable {φ : Int → Int} {σ : Wi → Wi} {b b' : Bk} {l l' : Lst}
theorem phi_inj (m : ∀ x y, φ x < φ y ↔ x < y) (x y : Int) : φ x = φ y ↔ x = y := by
  refine ⟨fun h => ?_, fun h => by rw [h]⟩
  have h1 := m x y
  have h2 := m y x
  omega
theorem int_eqv (x y : Int) : PyData.eqv (.int x) (.int y) = decide (x = y) := by
  simp only [PyData.eqv]
  by_cases h : x = y <;> simp [h]
theorem phi_eqv (m : ∀ x y, φ x < φ y ↔ x < y) (x y : Int) : PyData.eqv (.int (φ x)) (.int (φ y)) = PyData.eqv (.int x) (.int y) := by
  rw [int_eqv, int_eqv]
  exact decide_eq_decide.mpr (phi_inj m x y)
theorem phi_lt (m : ∀ x y, φ x < φ y ↔ x < y) (x y : Int) : PySem.W.dataLt (.int (φ x)) (.int (φ y)) = PySem.W.dataLt (.int x) (.int y) := by
  rw [PySem.W.dataLt_int, PySem.W.dataLt_int]
  exact decide_eq_decide.mpr (m x y)
def rowPhi (φ : Int → Int) (r : Row) : Row := (r.1, φ r.2.1, r.2.2)
def bnPhi (φ : Int → Int) (r : Bn) : Bn := (φ r.1, r.2)
theorem row_phi (m : ∀ x y, φ x < φ y ↔ x < y) (a c : Row) : PySem.W.dataLe false rowP a c = PySem.W.dataLe false rowP (rowPhi φ a) (rowPhi φ c) := by
  obtain ⟨a1, a2, a3⟩ := a
  obtain ⟨c1, c2, c3⟩ := c
  rw [PySem.W.dataLe_eq]
  dsimp only [cond]
  have : PySem.W.dataLt (rowP (rowPhi φ (c1, c2, c3))) (rowP (rowPhi φ (a1, a2, a3))) = PySem.W.dataLt (rowP (c1, c2, c3)) (rowP (a1, a2, a3)) := by
    unfold rowP rowPhi
    dsimp only
    have al : PySem.W.alike (epP c3) (epP a3) = true := by simp [epP, PySem.W.alike, PySem.W.alikeAll]
    rw [PySem.W.dataLt_tuple, PySem.W.dataLt_tuple, PySem.W.dataLt_cons (by simp [PySem.W.alike]), PySem.W.dataLt_cons (by simp [PySem.W.alike]), PySem.W.dataLt_cons al, PySem.W.dataLt_cons (x := .int c1) (by simp [PySem.W.alike]), phi_eqv m, phi_lt m, PySem.W.dataLt_cons (x := .int c2) (by simp [PySem.W.alike]), PySem.W.dataLt_cons al]
  rw [this]
theorem bn_phi (m : ∀ x y, φ x < φ y ↔ x < y) (a c : Bn) : PySem.W.dataLe false bnP a c = PySem.W.dataLe false bnP (bnPhi φ a) (bnPhi φ c) := by
  obtain ⟨a1, a2⟩ := a
  obtain ⟨c1, c2⟩ := c
  rw [PySem.W.dataLe_eq]
  dsimp only [cond]
  have : PySem.W.dataLt (bnP (bnPhi φ (c1, c2))) (bnP (bnPhi φ (a1, a2))) = PySem.W.dataLt (bnP (c1, c2)) (bnP (a1, a2)) := by
    unfold bnP bnPhi
    dsimp only
    rw [PySem.W.dataLt_pair (by simp [PySem.W.alike]) (by simp [PySem.W.alike]), PySem.W.dataLt_pair (by simp [PySem.W.alike]) (by simp [PySem.W.alike]), phi_eqv m, phi_lt m]
  rw [this]
theorem Sim.wishes (S : Sim φ σ b l b' l') : SP.wishes b' l' = SP.wishes b l := by
  have e : (SP.wished b' l').map Wi.row = ((SP.wished b l).map Wi.row).map (rowPhi φ) := by
    rw [S.w, List.map_map, List.map_map]
    refine List.map_congr_left fun w hw => ?_
    show (-(σ w).r.priority, (σ w).s.begin_, (σ w).s.ep) = (-w.r.priority, φ w.s.begin_, w.s.ep)
    rw [S.pr, S.beg w hw, S.ep]
  have e2 : sortedRows b' l' = (sortedRows b l).map (rowPhi φ) := by
    unfold sortedRows
    rw [e, List.map_mergeSort fun a _ c _ => row_phi S.mono a c]
  unfold SP.wishes
  rw [e2, List.map_map]
  rfl
theorem Sim.sends (S : Sim φ σ b l b' l') (e : Ep) : sendsOf b' l' e = sendsOf b l e := by
  have e1 : ((SP.wished b' l').filter fun x => decide (x.s.ep = e)).map Wi.bn = (((SP.wished b l).filter fun x => decide (x.s.ep = e)).map Wi.bn).map (bnPhi φ) := by
    rw [S.w, List.filter_map, List.map_map, List.map_map]
    have e2 : ((fun x : Wi => decide (x.s.ep = e)) ∘ σ) = fun x => decide (x.s.ep = e) := by
      funext x
      show decide ((σ x).s.ep = e) = _
      rw [S.ep]
    rw [e2]
    refine List.map_congr_left fun w hw => ?_
    show ((σ w).s.begin_, (σ w).n) = (φ w.s.begin_, w.n)
    rw [S.beg w (List.mem_filter.mp hw).1, S.n]
  unfold sendsOf bnOf
  rw [e1, ← List.map_mergeSort fun a _ c _ => bn_phi S.mono a c, List.map_map]
  rfl
def winPhi (φ : Int → Int) (w : Win) : Win := (φ w.1, φ w.2)
theorem Sim.winOf (S : Sim φ σ b l b' l') {n : Str} (hn : n ∈ SP.wn b l) : SP.winOf (windows b' l') n = winPhi φ (SP.winOf (windows b l) n) := by
  obtain ⟨w, hw, rfl⟩ := List.mem_map.mp hn
  have hw2 : σ w ∈ SP.wished b' l' := by rw [S.w]; exact List.mem_map.mpr ⟨w, hw, rfl⟩
  have e := win_is S.ok' hw2
  rw [S.n, S.win w hw] at e
  rw [e, win_is S.ok hw]
  rfl
theorem over_phi (m : ∀ x y, φ x < φ y ↔ x < y) (a c : Win) : overlap (winPhi φ a) (winPhi φ c) = overlap a c := by
  unfold overlap winPhi
  rw [← Bool.decide_and, ← Bool.decide_and]
  exact decide_eq_decide.mpr (by dsimp only; rw [m, m])
theorem Sim.onRec (S : Sim φ σ b l b' l') {p : Plan} (hp : ∀ x ∈ p, x.1 ∈ SP.wn b l) (r : Int) {n : Str} (hn : n ∈ SP.wn b l) : SP.onRec (windows b' l') p r n = SP.onRec (windows b l) p r n := by
  unfold SP.onRec onRecW
  refine List.filter_congr fun o ho => ?_
  obtain ⟨x, hx, e⟩ := List.mem_map.mp ((sortN_perm _).mem_iff.mp (List.mem_filter.mp ho).1)
  have ho : o ∈ SP.wn b l := by rw [← e]; exact hp x hx
  rw [S.winOf ho, S.winOf hn, over_phi S.mono]
theorem Sim.first (S : Sim φ σ b l b' l') {p : Plan} (hp : ∀ x ∈ p, x.1 ∈ SP.wn b l) (k : Nat) : ∀ {ns : List Str}, (∀ n ∈ ns, n ∈ SP.wn b l) → firstFree (windows b' l') p k ns = firstFree (windows b l) p k ns
  | [], _ => rfl
  | n :: ns, h => by
    have e : freeAt (windows b' l') p k n = freeAt (windows b l) p k n := by
      unfold freeAt
      congr 1
      funext r
      rw [S.onRec hp _ (h n List.mem_cons_self)]
    unfold firstFree
    rw [e, S.first hp k fun x hx => h x (List.mem_cons_of_mem _ hx)]
theorem sends_wn {e : Ep} : ∀ n ∈ sendsOf b l e, n ∈ SP.wn b l := fun n hn => by
  obtain ⟨w, hw, rfl, _⟩ := sends_mem.mp hn
  exact List.mem_map.mpr ⟨w, hw, rfl⟩
theorem Sim.taken (S : Sim φ σ b l b' l') (k : Nat) : SP.taken b' l' k = SP.taken b l k := by
  have key : ∀ (es : List Ep) (p : Plan), (∀ x ∈ p, x.1 ∈ SP.wn b l) → es.foldl (takeStep b' l' k) p = es.foldl (takeStep b l k) p := by
    intro es
    induction es with
    | nil => intro p _; rfl
    | cons e es ih =>
      intro p hp
      have e1 : takeStep b' l' k p e = takeStep b l k p e := by
        unfold takeStep
        rw [S.sends, S.first hp k (sends_wn (b := b) (l := l) (e := e))]
      rw [List.foldl_cons, List.foldl_cons, e1]
      refine ih _ fun x hx => ?_
      unfold takeStep at hx
      cases hf : firstFree (windows b l) p k (sendsOf b l e) with
      | none => rw [hf] at hx; exact hp x hx
      | some z =>
        rw [hf] at hx
        rcases List.mem_append.mp hx with hx | hx
        · exact hp x hx
        · rw [List.mem_singleton.mp hx]
          exact sends_wn _ (first_mem hf).1
  unfold SP.taken
  rw [S.wishes, key _ _ fun x hx => by cases hx]
theorem Sim.own (S : Sim φ σ b l b' l') (k : Nat) : ownPlan b' l' k = ownPlan b l k := by
  unfold ownPlan
  rw [S.taken]
end
end SP
namespace SP
open PySem PySem.Spec PyProof.Rows L2 DD
end SP
namespace SP
open PySem PySem.Spec PyProof.Rows L2 DD
end SP
namespace DD
open PySem PySem.Spec PyProof.Rows L2
end DD
namespace SP
open PySem PySem.Spec PyProof.Rows L2 DD
end SP
namespace SP
open PySem PySem.Spec PyProof.Rows L2 DD
end SP
namespace DD
open PySem PySem.Spec PyProof.Rows L2
end DD
namespace DD
open PySem PySem.Spec PyProof.Rows L2
end DD
namespace K09
open PySem PySem.Spec PyProof.Rows L2 DD SP
local macro_rules | `(tactic| walk_at "w") => `(tactic| (conv => whnf))
local macro_rules | `(tactic| walk_at "s") => `(tactic| (walk_at "w"; first
  | (refine And.intro (fun h => absurd h (by decide)) (fun _ => ?_))
  | (refine And.intro (fun _ => ?_) (fun h => absurd h (by decide)))
  | (refine And.intro (fun h => no_nd h) (fun _ => ?_))
  | (refine And.intro (fun _ => ?_) (fun h => no_d h))))
local macro_rules | `(tactic| walk_at "ss") => `(tactic| ((repeat walk_at "s"); walk_at "w"))
local macro_rules | `(tactic| walk_at "sl") => `(tactic| ((repeat (first | walk_at "s" | refine Or.inl ?_)); walk_at "w"))
local macro_rules | `(tactic| walk_at "sr") => `(tactic| ((repeat (first | walk_at "s" | refine Or.inr ?_)); walk_at "w"))
local macro_rules | `(tactic| walk_at "d") => `(tactic| (walk_at "w"; first
  | (refine And.intro (fun h => absurd h (by decide)) (fun _ => ?_))
  | (refine And.intro (fun _ => ?_) (fun h => absurd h (by decide)))
  | (refine And.intro (fun h => no_nd h) (fun _ => ?_))
  | (refine And.intro (fun _ => ?_) (fun h => no_d h))
  | (refine Exists.intro _ (Exists.intro _ (And.intro (by assumption) ?_)))
  | (refine Exists.intro _ (And.intro rfl ?_))
  | (refine And.intro (by decide) ?_)))
local macro_rules | `(tactic| walk_at "z") => `(tactic| (walk_at "w"; refine And.intro (by first
  | (unfold CPow; decide)
  | (simp only [List.length_cons, List.length_nil, List.length_map, sizeLine_eq]; decide)) ?_))
local macro_rules | `(tactic| walk_at "zz") => `(tactic| ((repeat walk_at "z"); walk_at "w"))
local macro_rules | `(tactic| walk_at "dd") => `(tactic| (repeat walk_at "d"))
local macro_rules | `(tactic| walk_at "yy") => `(tactic| ((repeat (first | walk_at "z" | walk_at "d")); walk_at "w"))
local macro_rules | `(tactic| walk_at "f") => `(tactic| (walk_at "w"; refine ⟨_, _, .keep (List.Sublist.refl _), ?_⟩))
def top (i : Nat) : Stmt := PySem.Challenge.pw_fewtuners_k09_whole_small_disks.main.body.getD i (.Pass ⟨0, 0, 0, 0⟩)
abbrev s_law_refused : Stmt := top 75
theorem sc_law_refused : FnScope ["_law_work"] ["_law_work"] (defScope s_law_refused) := ⟨rfl, rfl, rfl, by decide +kernel, rfl, by decide +kernel, by decide +kernel⟩
abbrev s_is_word : Stmt := top 14
theorem sc_is_word : FnScope ["value", "letter"] ["value"] (defScope s_is_word) := ⟨rfl, rfl, rfl, by decide +kernel, rfl, by decide +kernel, by decide +kernel⟩
abbrev s_is_number : Stmt := top 15
theorem sc_is_number : FnScope ["value", "least", "greatest"] ["value", "least", "greatest"] (defScope s_is_number) := ⟨rfl, rfl, rfl, by decide +kernel, rfl, by decide +kernel, by decide +kernel⟩
abbrev s_Rule_eq : Stmt := inClass (top 50) 7
abbrev s_Book_eq : Stmt := inClass (top 51) 5
abbrev s_Sending_eq : Stmt := inClass (top 59) 7
abbrev s_Listing_getitem : Stmt := inClass (top 60) 5
theorem sc_Listing_getitem : FnScope ["self", "name"] ["self", "name"] (defScope s_Listing_getitem) := ⟨rfl, rfl, rfl, by decide +kernel, rfl, by decide +kernel, by decide +kernel⟩
abbrev s_Listing_contains : Stmt := inClass (top 60) 6
abbrev s_Listing_len : Stmt := inClass (top 60) 7
abbrev s_Listing_eq : Stmt := inClass (top 60) 8
abbrev s_is_receivers : Stmt := top 16
theorem sc_is_receivers : FnScope ["value"] ["value"] (defScope s_is_receivers) := ⟨rfl, rfl, rfl, by decide +kernel, rfl, by decide +kernel, by decide +kernel⟩
abbrev s_check_receivers : Stmt := top 17
theorem sc_check_receivers : FnScope ["value"] ["value"] (defScope s_check_receivers) := ⟨rfl, rfl, rfl, by decide +kernel, rfl, by decide +kernel, by decide +kernel⟩
abbrev s_check_number : Stmt := top 18
theorem sc_check_number : FnScope ["value", "least", "greatest"] ["value", "least", "greatest"] (defScope s_check_number) := ⟨rfl, rfl, rfl, by decide +kernel, rfl, by decide +kernel, by decide +kernel⟩
abbrev s_Rule_show : Stmt := inClass (top 50) 1
theorem sc_Rule_show : FnScope ["self"] ["self"] (defScope s_Rule_show) := ⟨rfl, rfl, rfl, by decide +kernel, rfl, by decide +kernel, by decide +kernel⟩
abbrev s_Sending_show : Stmt := inClass (top 59) 2
theorem sc_Sending_show : FnScope ["self"] ["self"] (defScope s_Sending_show) := ⟨rfl, rfl, rfl, by decide +kernel, rfl, by decide +kernel, by decide +kernel⟩
abbrev s_Sending_episode : Stmt := inClass (top 59) 3
theorem sc_Sending_episode : FnScope ["self"] ["self"] (defScope s_Sending_episode) := ⟨rfl, rfl, rfl, by decide +kernel, rfl, by decide +kernel, by decide +kernel⟩
abbrev s_episode_of : Stmt := top 20
theorem sc_episode_of : FnScope ["sending"] ["sending"] (defScope s_episode_of) := ⟨rfl, rfl, rfl, by decide +kernel, rfl, by decide +kernel, by decide +kernel⟩
abbrev s_Rule_first : Stmt := inClass (top 50) 2
theorem sc_Rule_first : FnScope ["self"] ["self"] (defScope s_Rule_first) := ⟨rfl, rfl, rfl, by decide +kernel, rfl, by decide +kernel, by decide +kernel⟩
abbrev s_Rule_last : Stmt := inClass (top 50) 3
theorem sc_Rule_last : FnScope ["self"] ["self"] (defScope s_Rule_last) := ⟨rfl, rfl, rfl, by decide +kernel, rfl, by decide +kernel, by decide +kernel⟩
abbrev s_Book_rule_of : Stmt := inClass (top 51) 3
theorem sc_Book_rule_of : FnScope ["self", "show", "episode", "rule"] ["self", "show", "episode"] (defScope s_Book_rule_of) := ⟨rfl, rfl, rfl, by decide +kernel, rfl, by decide +kernel, by decide +kernel⟩
abbrev s_rule_for : Stmt := top 21
theorem sc_rule_for : FnScope ["book", "sending"] ["book", "sending"] (defScope s_rule_for) := ⟨rfl, rfl, rfl, by decide +kernel, rfl, by decide +kernel, by decide +kernel⟩
abbrev s_Listing_names : Stmt := inClass (top 60) 1
theorem sc_Listing_names : FnScope ["self"] ["self"] (defScope s_Listing_names) := ⟨rfl, rfl, rfl, by decide +kernel, rfl, by decide +kernel, by decide +kernel⟩
abbrev s_wished_names : Stmt := top 22
theorem sc_wished_names : FnScope ["book", "listing", "name"] ["book", "listing"] (defScope s_wished_names) := ⟨rfl, rfl, rfl, by decide +kernel, rfl, by decide +kernel, by decide +kernel⟩
abbrev s_Rule_priority : Stmt := inClass (top 50) 4
theorem sc_Rule_priority : FnScope ["self"] ["self"] (defScope s_Rule_priority) := ⟨rfl, rfl, rfl, by decide +kernel, rfl, by decide +kernel, by decide +kernel⟩
abbrev s_Sending_begin : Stmt := inClass (top 59) 4
theorem sc_Sending_begin : FnScope ["self"] ["self"] (defScope s_Sending_begin) := ⟨rfl, rfl, rfl, by decide +kernel, rfl, by decide +kernel, by decide +kernel⟩
abbrev s_wishes : Stmt := top 23
theorem sc_wishes : FnScope ["book", "listing", "rows", "name", "sending", "found", "row"] ["book", "listing"] (defScope s_wishes) := ⟨rfl, rfl, rfl, by decide +kernel, rfl, by decide +kernel, by decide +kernel⟩
abbrev s_sendings_of : Stmt := top 24
theorem sc_sendings_of : FnScope ["book", "listing", "episode", "rows", "name", "row"] ["book", "listing", "episode"] (defScope s_sendings_of) := ⟨rfl, rfl, rfl, by decide +kernel, rfl, by decide +kernel, by decide +kernel⟩
abbrev s_Rule_before : Stmt := inClass (top 50) 5
theorem sc_Rule_before : FnScope ["self"] ["self"] (defScope s_Rule_before) := ⟨rfl, rfl, rfl, by decide +kernel, rfl, by decide +kernel, by decide +kernel⟩
abbrev s_Rule_after : Stmt := inClass (top 50) 6
theorem sc_Rule_after : FnScope ["self"] ["self"] (defScope s_Rule_after) := ⟨rfl, rfl, rfl, by decide +kernel, rfl, by decide +kernel, by decide +kernel⟩
abbrev s_Sending_end : Stmt := inClass (top 59) 5
theorem sc_Sending_end : FnScope ["self"] ["self"] (defScope s_Sending_end) := ⟨rfl, rfl, rfl, by decide +kernel, rfl, by decide +kernel, by decide +kernel⟩
abbrev s_window : Stmt := top 25
theorem sc_window : FnScope ["book", "listing", "name", "sending", "rule"] ["book", "listing", "name"] (defScope s_window) := ⟨rfl, rfl, rfl, by decide +kernel, rfl, by decide +kernel, by decide +kernel⟩
abbrev s_wished_windows : Stmt := top 26
theorem sc_wished_windows : FnScope ["book", "listing", "name"] ["book", "listing"] (defScope s_wished_windows) := ⟨rfl, rfl, rfl, by decide +kernel, rfl, by decide +kernel, by decide +kernel⟩
abbrev s_windows_overlap : Stmt := top 27
theorem sc_windows_overlap : FnScope ["one", "other"] ["one", "other"] (defScope s_windows_overlap) := ⟨rfl, rfl, rfl, by decide +kernel, rfl, by decide +kernel, by decide +kernel⟩
abbrev s_ascending : Stmt := top 29
theorem sc_ascending : FnScope ["plan", "name"] ["plan"] (defScope s_ascending) := ⟨rfl, rfl, rfl, by decide +kernel, rfl, by decide +kernel, by decide +kernel⟩
abbrev s_on_receiver : Stmt := top 30
theorem sc_on_receiver : FnScope ["windows", "plan", "receiver", "span", "recordings", "other"] ["windows", "plan", "receiver", "span"] (defScope s_on_receiver) := ⟨rfl, rfl, rfl, by decide +kernel, rfl, by decide +kernel, by decide +kernel⟩
abbrev s_least_free : Stmt := top 31
theorem sc_least_free : FnScope ["windows", "plan", "span", "receiver"] ["windows", "plan", "span"] (defScope s_least_free) := ⟨rfl, rfl, rfl, by decide +kernel, rfl, by decide +kernel, by decide +kernel⟩
abbrev s_taken_up : Stmt := top 32
theorem sc_taken_up : FnScope ["book", "listing", "receivers", "windows", "plan", "episode", "name", "receiver"] ["book", "listing", "receivers"] (defScope s_taken_up) := ⟨rfl, rfl, rfl, by decide +kernel, rfl, by decide +kernel, by decide +kernel⟩
abbrev s_own_plan : Stmt := top 33
theorem sc_own_plan : FnScope ["book", "listing", "receivers"] ["book", "listing", "receivers"] (defScope s_own_plan) := ⟨rfl, rfl, rfl, by decide +kernel, rfl, by decide +kernel, by decide +kernel⟩
abbrev s_begin_then_name : Stmt := top 35
theorem sc_begin_then_name : FnScope ["windows", "names", "row", "name"] ["windows", "names"] (defScope s_begin_then_name) := ⟨rfl, rfl, rfl, by decide +kernel, rfl, by decide +kernel, by decide +kernel⟩
abbrev s_recorded_minutes : Stmt := top 39
theorem sc_recorded_minutes : FnScope ["book", "listing", "receivers", "plan", "windows", "name"] ["book", "listing", "receivers"] (defScope s_recorded_minutes) := ⟨rfl, rfl, rfl, by decide +kernel, rfl, by decide +kernel, by decide +kernel⟩
abbrev s_minutes_of : Stmt := top 40
theorem sc_minutes_of : FnScope ["sizes", "names", "name"] ["sizes", "names"] (defScope s_minutes_of) := ⟨rfl, rfl, rfl, by decide +kernel, rfl, by decide +kernel, by decide +kernel⟩
abbrev s_among : Stmt := top 41
theorem sc_among : FnScope ["names", "others", "name"] ["names", "others"] (defScope s_among) := ⟨rfl, rfl, rfl, by decide +kernel, rfl, by decide +kernel, by decide +kernel⟩
abbrev s_on_disk : Stmt := top 42
theorem sc_on_disk : FnScope ["book", "listing", "receivers", "minutes", "protected", "sizes", "kept", "deleted", "refused", "name", "earliest", "other"] ["book", "listing", "receivers", "minutes", "protected"] (defScope s_on_disk) := ⟨rfl, rfl, rfl, by decide +kernel, rfl, by decide +kernel, by decide +kernel⟩
abbrev s_least_disk : Stmt := top 43
theorem sc_least_disk : FnScope ["book", "listing", "receivers", "protected", "sizes", "names", "needed", "at", "name", "least"] ["book", "listing", "receivers", "protected"] (defScope s_least_disk) := ⟨rfl, rfl, rfl, by decide +kernel, rfl, by decide +kernel, by decide +kernel⟩
abbrev s_wrong_part_books : Stmt := top 48
theorem sc_wrong_part_books : FnScope ["show", "first", "last", "priority", "before", "after"] ["show", "first", "last", "priority", "before", "after"] (defScope s_wrong_part_books) := ⟨rfl, rfl, rfl, by decide +kernel, rfl, by decide +kernel, by decide +kernel⟩
abbrev s_Rule_init : Stmt := inClass (top 50) 0
theorem sc_Rule_init : FnScope ["self", "show", "first", "last", "priority", "before", "after", "part"] ["self", "show", "first", "last", "priority", "before", "after"] (defScope s_Rule_init) := ⟨rfl, rfl, rfl, by decide +kernel, rfl, by decide +kernel, by decide +kernel⟩
abbrev s_Book_init : Stmt := inClass (top 51) 0
theorem sc_Book_init : FnScope ["self", "rules", "seen"] ["self", "rules", "seen"] (defScope s_Book_init) := ⟨rfl, rfl, rfl, by decide +kernel, rfl, by decide +kernel, by decide +kernel⟩
abbrev s_Book_rules : Stmt := inClass (top 51) 1
abbrev s_Book_seen : Stmt := inClass (top 51) 2
abbrev s_wrong_part_listings : Stmt := top 57
theorem sc_wrong_part_listings : FnScope ["channel", "show", "episode", "begin", "end", "late"] ["channel", "show", "episode", "begin", "end", "late"] (defScope s_wrong_part_listings) := ⟨rfl, rfl, rfl, by decide +kernel, rfl, by decide +kernel, by decide +kernel⟩
abbrev s_Sending_init : Stmt := inClass (top 59) 0
theorem sc_Sending_init : FnScope ["self", "channel", "show", "episode", "begin", "end", "late", "part"] ["self", "channel", "show", "episode", "begin", "end", "late"] (defScope s_Sending_init) := ⟨rfl, rfl, rfl, by decide +kernel, rfl, by decide +kernel, by decide +kernel⟩
abbrev s_Sending_channel : Stmt := inClass (top 59) 1
abbrev s_Sending_late : Stmt := inClass (top 59) 6
abbrev s_Listing_init : Stmt := inClass (top 60) 0
theorem sc_Listing_init : FnScope ["self", "sendings", "wrong", "name", "names"] ["self", "sendings"] (defScope s_Listing_init) := ⟨rfl, rfl, rfl, by decide +kernel, rfl, by decide +kernel, by decide +kernel⟩
abbrev s_Listing_sendings : Stmt := inClass (top 60) 2
abbrev s_law_mix : Stmt := top 62
theorem sc_law_mix : FnScope ["_law_script", "_law_seed", "_law_state", "_law_cell"] ["_law_script", "_law_seed"] (defScope s_law_mix) := ⟨rfl, rfl, rfl, by decide +kernel, rfl, by decide +kernel, by decide +kernel⟩
abbrev s_law_next : Stmt := top 63
theorem sc_law_next : FnScope ["_law_h", "_law_limit", "_law_cell"] ["_law_h", "_law_limit"] (defScope s_law_next) := ⟨rfl, rfl, rfl, by decide +kernel, rfl, by decide +kernel, by decide +kernel⟩
abbrev s_law_alike : Stmt := top 64
theorem sc_law_alike : FnScope ["_law_found", "_law_due", "_law_k"] ["_law_found", "_law_due"] (defScope s_law_alike) := ⟨rfl, rfl, rfl, by decide +kernel, rfl, by decide +kernel, by decide +kernel⟩
abbrev s_law_sendings : Stmt := top 65
theorem sc_law_sendings : FnScope ["_law_h", "_law_many", "_law_found", "_law_name", "_law_begin", "_law_title", "_law_late", "_law_end"] ["_law_h", "_law_many"] (defScope s_law_sendings) := ⟨rfl, rfl, rfl, by decide +kernel, rfl, by decide +kernel, by decide +kernel⟩
abbrev s_law_rules : Stmt := top 66
theorem sc_law_rules : FnScope ["_law_h", "_law_many", "_law_found", "_law_k", "_law_first", "_law_padding", "_law_title"] ["_law_h", "_law_many"] (defScope s_law_rules) := ⟨rfl, rfl, rfl, by decide +kernel, rfl, by decide +kernel, by decide +kernel⟩
abbrev s_law_drawn : Stmt := top 67
theorem sc_law_drawn : FnScope ["_law_h", "_law_many", "_law_seen", "_law_k"] ["_law_h", "_law_many"] (defScope s_law_drawn) := ⟨rfl, rfl, rfl, by decide +kernel, rfl, by decide +kernel, by decide +kernel⟩
abbrev s_law_listing : Stmt := top 68
theorem sc_law_listing : FnScope ["_law_sendings_here", "_law_found", "_law_name", "_law_channel", "_law_title", "_law_episode", "_law_begin", "_law_end", "_law_late"] ["_law_sendings_here"] (defScope s_law_listing) := ⟨rfl, rfl, rfl, by decide +kernel, rfl, by decide +kernel, by decide +kernel⟩
abbrev s_law_book : Stmt := top 69
theorem sc_law_book : FnScope ["_law_rules_here", "_law_seen", "_law_some", "_law_title", "_law_first", "_law_last", "_law_rank", "_law_before", "_law_after"] ["_law_rules_here", "_law_seen"] (defScope s_law_book) := ⟨rfl, rfl, rfl, by decide +kernel, rfl, by decide +kernel, by decide +kernel⟩
abbrev s_law_rule : Stmt := top 70
theorem sc_law_rule : FnScope ["_law_drawn_here", "_law_name", "_law_channel", "_law_title", "_law_episode", "_law_good", "_law_rule_here"] ["_law_drawn_here", "_law_name"] (defScope s_law_rule) := ⟨rfl, rfl, rfl, by decide +kernel, rfl, by decide +kernel, by decide +kernel⟩
abbrev s_law_groups : Stmt := top 71
theorem sc_law_groups : FnScope ["_law_drawn_here", "_law_found", "_law_rows", "_law_name", "_law_episode", "_law_begin", "_law_row"] ["_law_drawn_here"] (defScope s_law_groups) := ⟨rfl, rfl, rfl, by decide +kernel, rfl, by decide +kernel, by decide +kernel⟩
abbrev s_law_window : Stmt := top 72
theorem sc_law_window : FnScope ["_law_drawn_here", "_law_name", "_law_rule_here", "_law_sending"] ["_law_drawn_here", "_law_name"] (defScope s_law_window) := ⟨rfl, rfl, rfl, by decide +kernel, rfl, by decide +kernel, by decide +kernel⟩
abbrev s_law_cross : Stmt := top 73
theorem sc_law_cross : FnScope ["_law_drawn_here", "_law_one", "_law_other", "_law_first", "_law_second"] ["_law_drawn_here", "_law_one", "_law_other"] (defScope s_law_cross) := ⟨rfl, rfl, rfl, by decide +kernel, rfl, by decide +kernel, by decide +kernel⟩
abbrev s_law_taken : Stmt := top 74
theorem sc_law_taken : FnScope ["_law_drawn_here", "_law_receivers", "_law_taken_here", "_law_missed", "_law_groups_here", "_law_episode", "_law_free", "_law_name", "_law_receiver", "_law_other", "_law_place"] ["_law_drawn_here", "_law_receivers"] (defScope s_law_taken) := ⟨rfl, rfl, rfl, by decide +kernel, rfl, by decide +kernel, by decide +kernel⟩
abbrev s_law_stored : Stmt := top 76
theorem sc_law_stored : FnScope ["_law_drawn_here", "_law_taken_here", "_law_minutes", "_law_safe", "_law_rows", "_law_kept", "_law_deleted", "_law_refused_here", "_law_name", "_law_place", "_law_begin", "_law_end", "_law_sizes", "_law_size", "_law_one"] ["_law_drawn_here", "_law_taken_here", "_law_minutes", "_law_safe"] (defScope s_law_stored) := ⟨rfl, rfl, rfl, by decide +kernel, rfl, by decide +kernel, by decide +kernel⟩
abbrev s_law : Stmt := top 77
theorem sc_law : FnScope ["_law_script", "_law_h", "_law_turn", "_law_drawn_here", "_law_receivers", "_law_listing_here", "_law_book_here", "_law_taken_here", "_law_missed", "_law_safe", "_law_name", "_law_minutes", "_law_due", "_law_least", "_law_size", "_law_odd", "_law_works", "_law_work", "_law_long", "_law_rules_here"] ["_law_script"] (defScope s_law) := ⟨rfl, rfl, rfl, by decide +kernel, rfl, by decide +kernel, by decide +kernel⟩
abbrev s_InvalidSending_init : Stmt := inClass (top 3) 0
theorem sc_InvalidSending_init : FnScope ["self", "part"] ["self", "part"] (defScope s_InvalidSending_init) := ⟨rfl, rfl, rfl, by decide +kernel, rfl, by decide +kernel, by decide +kernel⟩
abbrev s_InvalidListing_init : Stmt := inClass (top 4) 0
theorem sc_InvalidListing_init : FnScope ["self", "name"] ["self", "name"] (defScope s_InvalidListing_init) := ⟨rfl, rfl, rfl, by decide +kernel, rfl, by decide +kernel, by decide +kernel⟩
abbrev s_InvalidRule_init : Stmt := inClass (top 6) 0
theorem sc_InvalidRule_init : FnScope ["self", "part"] ["self", "part"] (defScope s_InvalidRule_init) := ⟨rfl, rfl, rfl, by decide +kernel, rfl, by decide +kernel, by decide +kernel⟩
def lam_law_0 : LamK := LP.lam (LP.elt (LP.val (LP.nth (LP.body (LP.nth (defBody s_law) 1)) 8)) 0)
def lam_law_1 : LamK := LP.lam (LP.elt (LP.val (LP.nth (LP.body (LP.nth (defBody s_law) 1)) 8)) 1)
def lam_law_2 : LamK := LP.lam (LP.arg (LP.val (LP.nth (LP.body (LP.nth (defBody s_law) 1)) 9)) 0)
structure En (K : PySem.W.Frag) (mg : Str → Option Value) where
  n_len : mg "len" = none
  n_int : mg "int" = none
  n_bool : mg "bool" = none
  n_str : mg "str" = none
  n_list : mg "list" = none
  n_tuple : mg "tuple" = none
  n_dict : mg "dict" = none
  n_range : mg "range" = none
  n_isinstance : mg "isinstance" = none
  n_max : mg "max" = none
  n_min : mg "min" = none
  n_all : mg "all" = none
  n_sorted : mg "sorted" = none
  n_sum : mg "sum" = none
  n_enumerate : mg "enumerate" = none
  u_GREATEST_EPISODE : Value
  c_GREATEST_EPISODE : mg "GREATEST_EPISODE" = some u_GREATEST_EPISODE
  r_GREATEST_EPISODE : RelV (.int 999) u_GREATEST_EPISODE
  u_MOST_RECEIVERS : Value
  c_MOST_RECEIVERS : mg "MOST_RECEIVERS" = some u_MOST_RECEIVERS
  r_MOST_RECEIVERS : RelV (.int 10) u_MOST_RECEIVERS
  u_MOST_MINUTES : Value
  c_MOST_MINUTES : mg "MOST_MINUTES" = some u_MOST_MINUTES
  r_MOST_MINUTES : RelV (.int 1000000) u_MOST_MINUTES
  u_MOST_NEEDED : Value
  c_MOST_NEEDED : mg "MOST_NEEDED" = some u_MOST_NEEDED
  r_MOST_NEEDED : RelV (.int 100000) u_MOST_NEEDED
  u_MOST_RULES : Value
  c_MOST_RULES : mg "MOST_RULES" = some u_MOST_RULES
  r_MOST_RULES : RelV (.int 6) u_MOST_RULES
  u_GREATEST_PRIORITY : Value
  c_GREATEST_PRIORITY : mg "GREATEST_PRIORITY" = some u_GREATEST_PRIORITY
  r_GREATEST_PRIORITY : RelV (.int 9) u_GREATEST_PRIORITY
  u_MOST_PADDING : Value
  c_MOST_PADDING : mg "MOST_PADDING" = some u_MOST_PADDING
  r_MOST_PADDING : RelV (.int 60) u_MOST_PADDING
  u_MOST_SENDINGS : Value
  c_MOST_SENDINGS : mg "MOST_SENDINGS" = some u_MOST_SENDINGS
  r_MOST_SENDINGS : RelV (.int 10) u_MOST_SENDINGS
  u_LATEST_BEGIN : Value
  c_LATEST_BEGIN : mg "LATEST_BEGIN" = some u_LATEST_BEGIN
  r_LATEST_BEGIN : RelV (.int 1000000) u_LATEST_BEGIN
  u_LATEST_END : Value
  c_LATEST_END : mg "LATEST_END" = some u_LATEST_END
  r_LATEST_END : RelV (.int 1000600) u_LATEST_END
  u_MOST_LATE : Value
  c_MOST_LATE : mg "MOST_LATE" = some u_MOST_LATE
  r_MOST_LATE : RelV (.int 60) u_MOST_LATE
  f_is_word : Addr
  g_is_word : mg "is_word" = some (.ref f_is_word)
  d_is_word : FuncData
  F_is_word : Fun K "is_word" "is_word" s_is_word f_is_word d_is_word
  f_is_number : Addr
  g_is_number : mg "is_number" = some (.ref f_is_number)
  d_is_number : FuncData
  F_is_number : Fun K "is_number" "is_number" s_is_number f_is_number d_is_number
  f_is_receivers : Addr
  g_is_receivers : mg "is_receivers" = some (.ref f_is_receivers)
  d_is_receivers : FuncData
  F_is_receivers : Fun K "is_receivers" "is_receivers" s_is_receivers f_is_receivers d_is_receivers
  f_check_receivers : Addr
  g_check_receivers : mg "check_receivers" = some (.ref f_check_receivers)
  d_check_receivers : FuncData
  F_check_receivers : Fun K "check_receivers" "check_receivers" s_check_receivers f_check_receivers d_check_receivers
  f_check_number : Addr
  g_check_number : mg "check_number" = some (.ref f_check_number)
  d_check_number : FuncData
  F_check_number : Fun K "check_number" "check_number" s_check_number f_check_number d_check_number
  f_episode_of : Addr
  g_episode_of : mg "episode_of" = some (.ref f_episode_of)
  d_episode_of : FuncData
  F_episode_of : Fun K "episode_of" "episode_of" s_episode_of f_episode_of d_episode_of
  f_rule_for : Addr
  g_rule_for : mg "rule_for" = some (.ref f_rule_for)
  d_rule_for : FuncData
  F_rule_for : Fun K "rule_for" "rule_for" s_rule_for f_rule_for d_rule_for
  f_wished_names : Addr
  g_wished_names : mg "wished_names" = some (.ref f_wished_names)
  d_wished_names : FuncData
  F_wished_names : Fun K "wished_names" "wished_names" s_wished_names f_wished_names d_wished_names
  f_wishes : Addr
  g_wishes : mg "wishes" = some (.ref f_wishes)
  d_wishes : FuncData
  F_wishes : Fun K "wishes" "wishes" s_wishes f_wishes d_wishes
  f_sendings_of : Addr
  g_sendings_of : mg "sendings_of" = some (.ref f_sendings_of)
  d_sendings_of : FuncData
  F_sendings_of : Fun K "sendings_of" "sendings_of" s_sendings_of f_sendings_of d_sendings_of
  f_window : Addr
  g_window : mg "window" = some (.ref f_window)
  d_window : FuncData
  F_window : Fun K "window" "window" s_window f_window d_window
  f_wished_windows : Addr
  g_wished_windows : mg "wished_windows" = some (.ref f_wished_windows)
  d_wished_windows : FuncData
  F_wished_windows : Fun K "wished_windows" "wished_windows" s_wished_windows f_wished_windows d_wished_windows
  f_windows_overlap : Addr
  g_windows_overlap : mg "windows_overlap" = some (.ref f_windows_overlap)
  d_windows_overlap : FuncData
  F_windows_overlap : Fun K "windows_overlap" "windows_overlap" s_windows_overlap f_windows_overlap d_windows_overlap
  f_ascending : Addr
  g_ascending : mg "ascending" = some (.ref f_ascending)
  d_ascending : FuncData
  F_ascending : Fun K "ascending" "ascending" s_ascending f_ascending d_ascending
  f_on_receiver : Addr
  g_on_receiver : mg "on_receiver" = some (.ref f_on_receiver)
  d_on_receiver : FuncData
  F_on_receiver : Fun K "on_receiver" "on_receiver" s_on_receiver f_on_receiver d_on_receiver
  f_least_free : Addr
  g_least_free : mg "least_free" = some (.ref f_least_free)
  d_least_free : FuncData
  F_least_free : Fun K "least_free" "least_free" s_least_free f_least_free d_least_free
  f_taken_up : Addr
  g_taken_up : mg "taken_up" = some (.ref f_taken_up)
  d_taken_up : FuncData
  F_taken_up : Fun K "taken_up" "taken_up" s_taken_up f_taken_up d_taken_up
  f_own_plan : Addr
  g_own_plan : mg "own_plan" = some (.ref f_own_plan)
  d_own_plan : FuncData
  F_own_plan : Fun K "own_plan" "own_plan" s_own_plan f_own_plan d_own_plan
  f_begin_then_name : Addr
  g_begin_then_name : mg "begin_then_name" = some (.ref f_begin_then_name)
  d_begin_then_name : FuncData
  F_begin_then_name : Fun K "begin_then_name" "begin_then_name" s_begin_then_name f_begin_then_name d_begin_then_name
  f_recorded_minutes : Addr
  g_recorded_minutes : mg "recorded_minutes" = some (.ref f_recorded_minutes)
  d_recorded_minutes : FuncData
  F_recorded_minutes : Fun K "recorded_minutes" "recorded_minutes" s_recorded_minutes f_recorded_minutes d_recorded_minutes
  f_minutes_of : Addr
  g_minutes_of : mg "minutes_of" = some (.ref f_minutes_of)
  d_minutes_of : FuncData
  F_minutes_of : Fun K "minutes_of" "minutes_of" s_minutes_of f_minutes_of d_minutes_of
  f_among : Addr
  g_among : mg "among" = some (.ref f_among)
  d_among : FuncData
  F_among : Fun K "among" "among" s_among f_among d_among
  f_on_disk : Addr
  g_on_disk : mg "on_disk" = some (.ref f_on_disk)
  d_on_disk : FuncData
  F_on_disk : Fun K "on_disk" "on_disk" s_on_disk f_on_disk d_on_disk
  f_least_disk : Addr
  g_least_disk : mg "least_disk" = some (.ref f_least_disk)
  d_least_disk : FuncData
  F_least_disk : Fun K "least_disk" "least_disk" s_least_disk f_least_disk d_least_disk
  f_wrong_part_books : Addr
  g_wrong_part_books : mg "wrong_part_books" = some (.ref f_wrong_part_books)
  d_wrong_part_books : FuncData
  F_wrong_part_books : Fun K "wrong_part" "wrong_part" s_wrong_part_books f_wrong_part_books d_wrong_part_books
  f_wrong_part_listings : Addr
  g_wrong_part_listings : mg "wrong_part_listings" = some (.ref f_wrong_part_listings)
  d_wrong_part_listings : FuncData
  F_wrong_part_listings : Fun K "wrong_part" "wrong_part" s_wrong_part_listings f_wrong_part_listings d_wrong_part_listings
  f_law_mix : Addr
  g_law_mix : mg "_law_mix" = some (.ref f_law_mix)
  d_law_mix : FuncData
  F_law_mix : Fun K "_law_mix" "_law_mix" s_law_mix f_law_mix d_law_mix
  f_law_next : Addr
  g_law_next : mg "_law_next" = some (.ref f_law_next)
  d_law_next : FuncData
  F_law_next : Fun K "_law_next" "_law_next" s_law_next f_law_next d_law_next
  f_law_alike : Addr
  g_law_alike : mg "_law_alike" = some (.ref f_law_alike)
  d_law_alike : FuncData
  F_law_alike : Fun K "_law_alike" "_law_alike" s_law_alike f_law_alike d_law_alike
  f_law_sendings : Addr
  g_law_sendings : mg "_law_sendings" = some (.ref f_law_sendings)
  d_law_sendings : FuncData
  F_law_sendings : Fun K "_law_sendings" "_law_sendings" s_law_sendings f_law_sendings d_law_sendings
  f_law_rules : Addr
  g_law_rules : mg "_law_rules" = some (.ref f_law_rules)
  d_law_rules : FuncData
  F_law_rules : Fun K "_law_rules" "_law_rules" s_law_rules f_law_rules d_law_rules
  f_law_drawn : Addr
  g_law_drawn : mg "_law_drawn" = some (.ref f_law_drawn)
  d_law_drawn : FuncData
  F_law_drawn : Fun K "_law_drawn" "_law_drawn" s_law_drawn f_law_drawn d_law_drawn
  f_law_listing : Addr
  g_law_listing : mg "_law_listing" = some (.ref f_law_listing)
  d_law_listing : FuncData
  F_law_listing : Fun K "_law_listing" "_law_listing" s_law_listing f_law_listing d_law_listing
  f_law_book : Addr
  g_law_book : mg "_law_book" = some (.ref f_law_book)
  d_law_book : FuncData
  F_law_book : Fun K "_law_book" "_law_book" s_law_book f_law_book d_law_book
  f_law_rule : Addr
  g_law_rule : mg "_law_rule" = some (.ref f_law_rule)
  d_law_rule : FuncData
  F_law_rule : Fun K "_law_rule" "_law_rule" s_law_rule f_law_rule d_law_rule
  f_law_groups : Addr
  g_law_groups : mg "_law_groups" = some (.ref f_law_groups)
  d_law_groups : FuncData
  F_law_groups : Fun K "_law_groups" "_law_groups" s_law_groups f_law_groups d_law_groups
  f_law_window : Addr
  g_law_window : mg "_law_window" = some (.ref f_law_window)
  d_law_window : FuncData
  F_law_window : Fun K "_law_window" "_law_window" s_law_window f_law_window d_law_window
  f_law_cross : Addr
  g_law_cross : mg "_law_cross" = some (.ref f_law_cross)
  d_law_cross : FuncData
  F_law_cross : Fun K "_law_cross" "_law_cross" s_law_cross f_law_cross d_law_cross
  f_law_taken : Addr
  g_law_taken : mg "_law_taken" = some (.ref f_law_taken)
  d_law_taken : FuncData
  F_law_taken : Fun K "_law_taken" "_law_taken" s_law_taken f_law_taken d_law_taken
  f_law_refused : Addr
  g_law_refused : mg "_law_refused" = some (.ref f_law_refused)
  d_law_refused : FuncData
  F_law_refused : Fun K "_law_refused" "_law_refused" s_law_refused f_law_refused d_law_refused
  f_law_stored : Addr
  g_law_stored : mg "_law_stored" = some (.ref f_law_stored)
  d_law_stored : FuncData
  F_law_stored : Fun K "_law_stored" "_law_stored" s_law_stored f_law_stored d_law_stored
  f_law : Addr
  g_law : mg "law" = some (.ref f_law)
  d_law : FuncData
  F_law : Fun K "law" "law" s_law f_law d_law
  C_Rule : Addr
  g_Rule : mg "Rule" = some (.ref C_Rule)
  cl_Rule : Cls K C_Rule
  in_Rule : InsC K C_Rule
  f_Rule_init : Addr
  mk_Rule : Mk K C_Rule f_Rule_init
  d_Rule_init : FuncData
  F_Rule_init : FunD K "__init__" "Rule.__init__" (defArgs s_Rule_init) (defBody s_Rule_init) (defScope s_Rule_init) [.int 0, .int 0] [] f_Rule_init d_Rule_init
  f_Rule_show : Addr
  q_Rule_show : Addr
  p_Rule_show : PropOf K C_Rule "show" q_Rule_show f_Rule_show
  d_Rule_show : FuncData
  F_Rule_show : Fun K "show" "Rule.show" s_Rule_show f_Rule_show d_Rule_show
  f_Rule_first : Addr
  q_Rule_first : Addr
  p_Rule_first : PropOf K C_Rule "first" q_Rule_first f_Rule_first
  d_Rule_first : FuncData
  F_Rule_first : Fun K "first" "Rule.first" s_Rule_first f_Rule_first d_Rule_first
  f_Rule_last : Addr
  q_Rule_last : Addr
  p_Rule_last : PropOf K C_Rule "last" q_Rule_last f_Rule_last
  d_Rule_last : FuncData
  F_Rule_last : Fun K "last" "Rule.last" s_Rule_last f_Rule_last d_Rule_last
  f_Rule_priority : Addr
  q_Rule_priority : Addr
  p_Rule_priority : PropOf K C_Rule "priority" q_Rule_priority f_Rule_priority
  d_Rule_priority : FuncData
  F_Rule_priority : Fun K "priority" "Rule.priority" s_Rule_priority f_Rule_priority d_Rule_priority
  f_Rule_before : Addr
  q_Rule_before : Addr
  p_Rule_before : PropOf K C_Rule "before" q_Rule_before f_Rule_before
  d_Rule_before : FuncData
  F_Rule_before : Fun K "before" "Rule.before" s_Rule_before f_Rule_before d_Rule_before
  f_Rule_after : Addr
  q_Rule_after : Addr
  p_Rule_after : PropOf K C_Rule "after" q_Rule_after f_Rule_after
  d_Rule_after : FuncData
  F_Rule_after : Fun K "after" "Rule.after" s_Rule_after f_Rule_after d_Rule_after
  f_Rule_eq : Addr
  e_Rule_eq : PySem.W.findIn K (.ref C_Rule) "__eq__" = some (some (.ref f_Rule_eq))
  fn_Rule_eq : PySem.W.isFn K (.ref f_Rule_eq) = true
  ne_Rule : NeC K C_Rule f_Rule_eq
  d_Rule_eq : FuncData
  F_Rule_eq : Fun K "__eq__" "Rule.__eq__" s_Rule_eq f_Rule_eq d_Rule_eq
  na_Rule_show : NoAttr K C_Rule "_show"
  na_Rule_first : NoAttr K C_Rule "_first"
  na_Rule_last : NoAttr K C_Rule "_last"
  na_Rule_priority : NoAttr K C_Rule "_priority"
  na_Rule_before : NoAttr K C_Rule "_before"
  na_Rule_after : NoAttr K C_Rule "_after"
  C_Book : Addr
  g_Book : mg "Book" = some (.ref C_Book)
  cl_Book : Cls K C_Book
  in_Book : InsC K C_Book
  f_Book_init : Addr
  mk_Book : Mk K C_Book f_Book_init
  d_Book_init : FuncData
  a_Book_init : Addr
  F_Book_init : FunD K "__init__" "Book.__init__" (defArgs s_Book_init) (defBody s_Book_init) (defScope s_Book_init) [.ref a_Book_init] [] f_Book_init d_Book_init
  kt_Book_init : ∃ (o : Obj) (n : Nat), K.lookup a_Book_init = some o ∧ o.cls = .type "tuple" ∧ o.data = .seq #[] n
  f_Book_rules : Addr
  q_Book_rules : Addr
  p_Book_rules : PropOf K C_Book "rules" q_Book_rules f_Book_rules
  d_Book_rules : FuncData
  F_Book_rules : Fun K "rules" "Book.rules" s_Book_rules f_Book_rules d_Book_rules
  f_Book_seen : Addr
  q_Book_seen : Addr
  p_Book_seen : PropOf K C_Book "seen" q_Book_seen f_Book_seen
  d_Book_seen : FuncData
  F_Book_seen : Fun K "seen" "Book.seen" s_Book_seen f_Book_seen d_Book_seen
  f_Book_rule_of : Addr
  m_Book_rule_of : Meth K C_Book "rule_of" f_Book_rule_of
  d_Book_rule_of : FuncData
  F_Book_rule_of : Fun K "rule_of" "Book.rule_of" s_Book_rule_of f_Book_rule_of d_Book_rule_of
  f_Book_eq : Addr
  e_Book_eq : PySem.W.findIn K (.ref C_Book) "__eq__" = some (some (.ref f_Book_eq))
  fn_Book_eq : PySem.W.isFn K (.ref f_Book_eq) = true
  ne_Book : NeC K C_Book f_Book_eq
  d_Book_eq : FuncData
  F_Book_eq : Fun K "__eq__" "Book.__eq__" s_Book_eq f_Book_eq d_Book_eq
  na_Book_rules : NoAttr K C_Book "_rules"
  na_Book_seen : NoAttr K C_Book "_seen"
  C_Sending : Addr
  g_Sending : mg "Sending" = some (.ref C_Sending)
  cl_Sending : Cls K C_Sending
  in_Sending : InsC K C_Sending
  f_Sending_init : Addr
  mk_Sending : Mk K C_Sending f_Sending_init
  d_Sending_init : FuncData
  F_Sending_init : FunD K "__init__" "Sending.__init__" (defArgs s_Sending_init) (defBody s_Sending_init) (defScope s_Sending_init) [.int 0] [] f_Sending_init d_Sending_init
  f_Sending_channel : Addr
  q_Sending_channel : Addr
  p_Sending_channel : PropOf K C_Sending "channel" q_Sending_channel f_Sending_channel
  d_Sending_channel : FuncData
  F_Sending_channel : Fun K "channel" "Sending.channel" s_Sending_channel f_Sending_channel d_Sending_channel
  f_Sending_show : Addr
  q_Sending_show : Addr
  p_Sending_show : PropOf K C_Sending "show" q_Sending_show f_Sending_show
  d_Sending_show : FuncData
  F_Sending_show : Fun K "show" "Sending.show" s_Sending_show f_Sending_show d_Sending_show
  f_Sending_episode : Addr
  q_Sending_episode : Addr
  p_Sending_episode : PropOf K C_Sending "episode" q_Sending_episode f_Sending_episode
  d_Sending_episode : FuncData
  F_Sending_episode : Fun K "episode" "Sending.episode" s_Sending_episode f_Sending_episode d_Sending_episode
  f_Sending_begin : Addr
  q_Sending_begin : Addr
  p_Sending_begin : PropOf K C_Sending "begin" q_Sending_begin f_Sending_begin
  d_Sending_begin : FuncData
  F_Sending_begin : Fun K "begin" "Sending.begin" s_Sending_begin f_Sending_begin d_Sending_begin
  f_Sending_end : Addr
  q_Sending_end : Addr
  p_Sending_end : PropOf K C_Sending "end" q_Sending_end f_Sending_end
  d_Sending_end : FuncData
  F_Sending_end : Fun K "end" "Sending.end" s_Sending_end f_Sending_end d_Sending_end
  f_Sending_late : Addr
  q_Sending_late : Addr
  p_Sending_late : PropOf K C_Sending "late" q_Sending_late f_Sending_late
  d_Sending_late : FuncData
  F_Sending_late : Fun K "late" "Sending.late" s_Sending_late f_Sending_late d_Sending_late
  f_Sending_eq : Addr
  e_Sending_eq : PySem.W.findIn K (.ref C_Sending) "__eq__" = some (some (.ref f_Sending_eq))
  fn_Sending_eq : PySem.W.isFn K (.ref f_Sending_eq) = true
  ne_Sending : NeC K C_Sending f_Sending_eq
  d_Sending_eq : FuncData
  F_Sending_eq : Fun K "__eq__" "Sending.__eq__" s_Sending_eq f_Sending_eq d_Sending_eq
  na_Sending_channel : NoAttr K C_Sending "_channel"
  na_Sending_show : NoAttr K C_Sending "_show"
  na_Sending_episode : NoAttr K C_Sending "_episode"
  na_Sending_begin : NoAttr K C_Sending "_begin"
  na_Sending_end : NoAttr K C_Sending "_end"
  na_Sending_late : NoAttr K C_Sending "_late"
  C_Listing : Addr
  g_Listing : mg "Listing" = some (.ref C_Listing)
  cl_Listing : Cls K C_Listing
  in_Listing : InsC K C_Listing
  f_Listing_init : Addr
  mk_Listing : Mk K C_Listing f_Listing_init
  d_Listing_init : FuncData
  F_Listing_init : Fun K "__init__" "Listing.__init__" s_Listing_init f_Listing_init d_Listing_init
  f_Listing_names : Addr
  q_Listing_names : Addr
  p_Listing_names : PropOf K C_Listing "names" q_Listing_names f_Listing_names
  d_Listing_names : FuncData
  F_Listing_names : Fun K "names" "Listing.names" s_Listing_names f_Listing_names d_Listing_names
  f_Listing_sendings : Addr
  q_Listing_sendings : Addr
  p_Listing_sendings : PropOf K C_Listing "sendings" q_Listing_sendings f_Listing_sendings
  d_Listing_sendings : FuncData
  F_Listing_sendings : Fun K "sendings" "Listing.sendings" s_Listing_sendings f_Listing_sendings d_Listing_sendings
  f_Listing_getitem : Addr
  sg_Listing_getitem : PySem.W.findIn K (.ref C_Listing) "__getitem__" = some (some (.ref f_Listing_getitem))
  fi_Listing_getitem : PySem.W.fnIn K f_Listing_getitem = true
  fn_Listing_getitem : PySem.W.isFn K (.ref f_Listing_getitem) = true
  d_Listing_getitem : FuncData
  F_Listing_getitem : Fun K "__getitem__" "Listing.__getitem__" s_Listing_getitem f_Listing_getitem d_Listing_getitem
  f_Listing_contains : Addr
  sg_Listing_contains : PySem.W.findIn K (.ref C_Listing) "__contains__" = some (some (.ref f_Listing_contains))
  fi_Listing_contains : PySem.W.fnIn K f_Listing_contains = true
  fn_Listing_contains : PySem.W.isFn K (.ref f_Listing_contains) = true
  d_Listing_contains : FuncData
  F_Listing_contains : Fun K "__contains__" "Listing.__contains__" s_Listing_contains f_Listing_contains d_Listing_contains
  f_Listing_len : Addr
  sg_Listing_len : PySem.W.findIn K (.ref C_Listing) "__len__" = some (some (.ref f_Listing_len))
  fi_Listing_len : PySem.W.fnIn K f_Listing_len = true
  fn_Listing_len : PySem.W.isFn K (.ref f_Listing_len) = true
  d_Listing_len : FuncData
  F_Listing_len : Fun K "__len__" "Listing.__len__" s_Listing_len f_Listing_len d_Listing_len
  f_Listing_eq : Addr
  e_Listing_eq : PySem.W.findIn K (.ref C_Listing) "__eq__" = some (some (.ref f_Listing_eq))
  fn_Listing_eq : PySem.W.isFn K (.ref f_Listing_eq) = true
  ne_Listing : NeC K C_Listing f_Listing_eq
  d_Listing_eq : FuncData
  F_Listing_eq : Fun K "__eq__" "Listing.__eq__" s_Listing_eq f_Listing_eq d_Listing_eq
  na_Listing_sendings : NoAttr K C_Listing "_sendings"
  tc_law : Addr
  dc_law : d_law.code = .ref tc_law
  h_law : PySem.W.codeHdIn K tc_law (He.tabOf K tc_law) = true
  n_tp : K.lookup (He.tabOf K tc_law) = none
  ki_Rule_Rule : PySem.W.kitOne K (.ref C_Rule) (.ref C_Rule) = some true
  ki_Book_Rule : PySem.W.kitOne K (.ref C_Book) (.ref C_Rule) = some false
  ki_Sending_Rule : PySem.W.kitOne K (.ref C_Sending) (.ref C_Rule) = some false
  ki_Listing_Rule : PySem.W.kitOne K (.ref C_Listing) (.ref C_Rule) = some false
  kb_NoneType_Rule : PySem.W.kitOne K (.type "NoneType") (.ref C_Rule) = some false
  kb_bool_Rule : PySem.W.kitOne K (.type "bool") (.ref C_Rule) = some false
  kb_int_Rule : PySem.W.kitOne K (.type "int") (.ref C_Rule) = some false
  kb_str_Rule : PySem.W.kitOne K (.type "str") (.ref C_Rule) = some false
  kb_list_Rule : PySem.W.kitOne K (.type "list") (.ref C_Rule) = some false
  kb_tuple_Rule : PySem.W.kitOne K (.type "tuple") (.ref C_Rule) = some false
  kb_dict_Rule : PySem.W.kitOne K (.type "dict") (.ref C_Rule) = some false
  ko_Rule_bool : PySem.W.kitOne K (.ref C_Rule) (.type "bool") = some false
  ko_Rule_int : PySem.W.kitOne K (.ref C_Rule) (.type "int") = some false
  ko_Rule_str : PySem.W.kitOne K (.ref C_Rule) (.type "str") = some false
  ko_Rule_list : PySem.W.kitOne K (.ref C_Rule) (.type "list") = some false
  ko_Rule_tuple : PySem.W.kitOne K (.ref C_Rule) (.type "tuple") = some false
  ko_Rule_dict : PySem.W.kitOne K (.ref C_Rule) (.type "dict") = some false
  ki_Rule_Book : PySem.W.kitOne K (.ref C_Rule) (.ref C_Book) = some false
  ki_Book_Book : PySem.W.kitOne K (.ref C_Book) (.ref C_Book) = some true
  ki_Sending_Book : PySem.W.kitOne K (.ref C_Sending) (.ref C_Book) = some false
  ki_Listing_Book : PySem.W.kitOne K (.ref C_Listing) (.ref C_Book) = some false
  kb_NoneType_Book : PySem.W.kitOne K (.type "NoneType") (.ref C_Book) = some false
  kb_bool_Book : PySem.W.kitOne K (.type "bool") (.ref C_Book) = some false
  kb_int_Book : PySem.W.kitOne K (.type "int") (.ref C_Book) = some false
  kb_str_Book : PySem.W.kitOne K (.type "str") (.ref C_Book) = some false
  kb_list_Book : PySem.W.kitOne K (.type "list") (.ref C_Book) = some false
  kb_tuple_Book : PySem.W.kitOne K (.type "tuple") (.ref C_Book) = some false
  kb_dict_Book : PySem.W.kitOne K (.type "dict") (.ref C_Book) = some false
  ko_Book_bool : PySem.W.kitOne K (.ref C_Book) (.type "bool") = some false
  ko_Book_int : PySem.W.kitOne K (.ref C_Book) (.type "int") = some false
  ko_Book_str : PySem.W.kitOne K (.ref C_Book) (.type "str") = some false
  ko_Book_list : PySem.W.kitOne K (.ref C_Book) (.type "list") = some false
  ko_Book_tuple : PySem.W.kitOne K (.ref C_Book) (.type "tuple") = some false
  ko_Book_dict : PySem.W.kitOne K (.ref C_Book) (.type "dict") = some false
  ki_Rule_Sending : PySem.W.kitOne K (.ref C_Rule) (.ref C_Sending) = some false
  ki_Book_Sending : PySem.W.kitOne K (.ref C_Book) (.ref C_Sending) = some false
  ki_Sending_Sending : PySem.W.kitOne K (.ref C_Sending) (.ref C_Sending) = some true
  ki_Listing_Sending : PySem.W.kitOne K (.ref C_Listing) (.ref C_Sending) = some false
  kb_NoneType_Sending : PySem.W.kitOne K (.type "NoneType") (.ref C_Sending) = some false
  kb_bool_Sending : PySem.W.kitOne K (.type "bool") (.ref C_Sending) = some false
  kb_int_Sending : PySem.W.kitOne K (.type "int") (.ref C_Sending) = some false
  kb_str_Sending : PySem.W.kitOne K (.type "str") (.ref C_Sending) = some false
  kb_list_Sending : PySem.W.kitOne K (.type "list") (.ref C_Sending) = some false
  kb_tuple_Sending : PySem.W.kitOne K (.type "tuple") (.ref C_Sending) = some false
  kb_dict_Sending : PySem.W.kitOne K (.type "dict") (.ref C_Sending) = some false
  ko_Sending_bool : PySem.W.kitOne K (.ref C_Sending) (.type "bool") = some false
  ko_Sending_int : PySem.W.kitOne K (.ref C_Sending) (.type "int") = some false
  ko_Sending_str : PySem.W.kitOne K (.ref C_Sending) (.type "str") = some false
  ko_Sending_list : PySem.W.kitOne K (.ref C_Sending) (.type "list") = some false
  ko_Sending_tuple : PySem.W.kitOne K (.ref C_Sending) (.type "tuple") = some false
  ko_Sending_dict : PySem.W.kitOne K (.ref C_Sending) (.type "dict") = some false
  ki_Rule_Listing : PySem.W.kitOne K (.ref C_Rule) (.ref C_Listing) = some false
  ki_Book_Listing : PySem.W.kitOne K (.ref C_Book) (.ref C_Listing) = some false
  ki_Sending_Listing : PySem.W.kitOne K (.ref C_Sending) (.ref C_Listing) = some false
  ki_Listing_Listing : PySem.W.kitOne K (.ref C_Listing) (.ref C_Listing) = some true
  kb_NoneType_Listing : PySem.W.kitOne K (.type "NoneType") (.ref C_Listing) = some false
  kb_bool_Listing : PySem.W.kitOne K (.type "bool") (.ref C_Listing) = some false
  kb_int_Listing : PySem.W.kitOne K (.type "int") (.ref C_Listing) = some false
  kb_str_Listing : PySem.W.kitOne K (.type "str") (.ref C_Listing) = some false
  kb_list_Listing : PySem.W.kitOne K (.type "list") (.ref C_Listing) = some false
  kb_tuple_Listing : PySem.W.kitOne K (.type "tuple") (.ref C_Listing) = some false
  kb_dict_Listing : PySem.W.kitOne K (.type "dict") (.ref C_Listing) = some false
  ko_Listing_bool : PySem.W.kitOne K (.ref C_Listing) (.type "bool") = some false
  ko_Listing_int : PySem.W.kitOne K (.ref C_Listing) (.type "int") = some false
  ko_Listing_str : PySem.W.kitOne K (.ref C_Listing) (.type "str") = some false
  ko_Listing_list : PySem.W.kitOne K (.ref C_Listing) (.type "list") = some false
  ko_Listing_tuple : PySem.W.kitOne K (.ref C_Listing) (.type "tuple") = some false
  ko_Listing_dict : PySem.W.kitOne K (.ref C_Listing) (.type "dict") = some false
  C_RecorderError : Addr
  g_RecorderError : mg "RecorderError" = some (.ref C_RecorderError)
  kc_RecorderError : PySem.W.keepIn K (.ref C_RecorderError) = true
  r_RecorderError : PySem.W.subIn K (.ref C_RecorderError) (.type "BaseException") = some true
  ty_RecorderError : PySem.W.typeIn K (.ref C_RecorderError) = some (.type "type")
  C_InvalidSending : Addr
  g_InvalidSending : mg "InvalidSending" = some (.ref C_InvalidSending)
  kc_InvalidSending : PySem.W.keepIn K (.ref C_InvalidSending) = true
  r_InvalidSending : PySem.W.subIn K (.ref C_InvalidSending) (.type "BaseException") = some true
  ty_InvalidSending : PySem.W.typeIn K (.ref C_InvalidSending) = some (.type "type")
  f_InvalidSending_init : Addr
  T_InvalidSending : OexC K C_InvalidSending
  i_InvalidSending : PySem.W.findIn K (.ref C_InvalidSending) "__init__" = some (some (.ref f_InvalidSending_init))
  t_InvalidSending : PySem.W.typeIn K (.ref f_InvalidSending_init) = some (.type "function")
  X_InvalidSending : XfC K C_InvalidSending
  nf_InvalidSending : PySem.W.findIn K (.ref C_InvalidSending) "part" = some none
  d_InvalidSending_init : FuncData
  F_InvalidSending_init : Fun K "__init__" "InvalidSending.__init__" s_InvalidSending_init f_InvalidSending_init d_InvalidSending_init
  C_InvalidListing : Addr
  g_InvalidListing : mg "InvalidListing" = some (.ref C_InvalidListing)
  kc_InvalidListing : PySem.W.keepIn K (.ref C_InvalidListing) = true
  r_InvalidListing : PySem.W.subIn K (.ref C_InvalidListing) (.type "BaseException") = some true
  ty_InvalidListing : PySem.W.typeIn K (.ref C_InvalidListing) = some (.type "type")
  f_InvalidListing_init : Addr
  T_InvalidListing : OexC K C_InvalidListing
  i_InvalidListing : PySem.W.findIn K (.ref C_InvalidListing) "__init__" = some (some (.ref f_InvalidListing_init))
  t_InvalidListing : PySem.W.typeIn K (.ref f_InvalidListing_init) = some (.type "function")
  X_InvalidListing : XfC K C_InvalidListing
  nf_InvalidListing : PySem.W.findIn K (.ref C_InvalidListing) "name" = some none
  d_InvalidListing_init : FuncData
  F_InvalidListing_init : Fun K "__init__" "InvalidListing.__init__" s_InvalidListing_init f_InvalidListing_init d_InvalidListing_init
  C_UnknownName : Addr
  g_UnknownName : mg "UnknownName" = some (.ref C_UnknownName)
  kc_UnknownName : PySem.W.keepIn K (.ref C_UnknownName) = true
  r_UnknownName : PySem.W.subIn K (.ref C_UnknownName) (.type "BaseException") = some true
  ty_UnknownName : PySem.W.typeIn K (.ref C_UnknownName) = some (.type "type")
  x_UnknownName : ValX K C_UnknownName
  C_InvalidRule : Addr
  g_InvalidRule : mg "InvalidRule" = some (.ref C_InvalidRule)
  kc_InvalidRule : PySem.W.keepIn K (.ref C_InvalidRule) = true
  r_InvalidRule : PySem.W.subIn K (.ref C_InvalidRule) (.type "BaseException") = some true
  ty_InvalidRule : PySem.W.typeIn K (.ref C_InvalidRule) = some (.type "type")
  f_InvalidRule_init : Addr
  T_InvalidRule : OexC K C_InvalidRule
  i_InvalidRule : PySem.W.findIn K (.ref C_InvalidRule) "__init__" = some (some (.ref f_InvalidRule_init))
  t_InvalidRule : PySem.W.typeIn K (.ref f_InvalidRule_init) = some (.type "function")
  X_InvalidRule : XfC K C_InvalidRule
  nf_InvalidRule : PySem.W.findIn K (.ref C_InvalidRule) "part" = some none
  d_InvalidRule_init : FuncData
  F_InvalidRule_init : Fun K "__init__" "InvalidRule.__init__" s_InvalidRule_init f_InvalidRule_init d_InvalidRule_init
  C_InvalidBook : Addr
  g_InvalidBook : mg "InvalidBook" = some (.ref C_InvalidBook)
  kc_InvalidBook : PySem.W.keepIn K (.ref C_InvalidBook) = true
  r_InvalidBook : PySem.W.subIn K (.ref C_InvalidBook) (.type "BaseException") = some true
  ty_InvalidBook : PySem.W.typeIn K (.ref C_InvalidBook) = some (.type "type")
  x_InvalidBook : ValX K C_InvalidBook
  C_UnknownEpisode : Addr
  g_UnknownEpisode : mg "UnknownEpisode" = some (.ref C_UnknownEpisode)
  kc_UnknownEpisode : PySem.W.keepIn K (.ref C_UnknownEpisode) = true
  r_UnknownEpisode : PySem.W.subIn K (.ref C_UnknownEpisode) (.type "BaseException") = some true
  ty_UnknownEpisode : PySem.W.typeIn K (.ref C_UnknownEpisode) = some (.type "type")
  x_UnknownEpisode : ValX K C_UnknownEpisode
  C_NotWished : Addr
  g_NotWished : mg "NotWished" = some (.ref C_NotWished)
  kc_NotWished : PySem.W.keepIn K (.ref C_NotWished) = true
  r_NotWished : PySem.W.subIn K (.ref C_NotWished) (.type "BaseException") = some true
  ty_NotWished : PySem.W.typeIn K (.ref C_NotWished) = some (.type "type")
  x_NotWished : ValX K C_NotWished
  C_InvalidNumber : Addr
  g_InvalidNumber : mg "InvalidNumber" = some (.ref C_InvalidNumber)
  kc_InvalidNumber : PySem.W.keepIn K (.ref C_InvalidNumber) = true
  r_InvalidNumber : PySem.W.subIn K (.ref C_InvalidNumber) (.type "BaseException") = some true
  ty_InvalidNumber : PySem.W.typeIn K (.ref C_InvalidNumber) = some (.type "type")
  x_InvalidNumber : ValX K C_InvalidNumber
  em_RecorderError_InvalidNumber : PySem.W.exmOne K (.ref C_RecorderError) (.ref C_InvalidNumber) = some false
  em_InvalidSending_InvalidNumber : PySem.W.exmOne K (.ref C_InvalidSending) (.ref C_InvalidNumber) = some false
  em_InvalidListing_InvalidNumber : PySem.W.exmOne K (.ref C_InvalidListing) (.ref C_InvalidNumber) = some false
  em_UnknownName_InvalidNumber : PySem.W.exmOne K (.ref C_UnknownName) (.ref C_InvalidNumber) = some false
  em_InvalidRule_InvalidNumber : PySem.W.exmOne K (.ref C_InvalidRule) (.ref C_InvalidNumber) = some false
  em_InvalidBook_InvalidNumber : PySem.W.exmOne K (.ref C_InvalidBook) (.ref C_InvalidNumber) = some false
  em_UnknownEpisode_InvalidNumber : PySem.W.exmOne K (.ref C_UnknownEpisode) (.ref C_InvalidNumber) = some false
  em_NotWished_InvalidNumber : PySem.W.exmOne K (.ref C_NotWished) (.ref C_InvalidNumber) = some false
  em_InvalidNumber_InvalidNumber : PySem.W.exmOne K (.ref C_InvalidNumber) (.ref C_InvalidNumber) = some true
section
variable {K : PySem.W.Frag} {mg : Str → Option Value}
theorem En.b_is_word (S : En K mg) : Binds K S.d_is_word ["value"] [] := S.F_is_word.binds fun _ _ _ _ _ _ us hl => match us, hl with | [_], _ => rfl
theorem En.b_is_number (S : En K mg) : Binds K S.d_is_number ["value", "least", "greatest"] [] := S.F_is_number.binds fun _ _ _ _ _ _ us hl => match us, hl with | [_, _, _], _ => rfl
theorem En.b_is_receivers (S : En K mg) : Binds K S.d_is_receivers ["value"] [] := S.F_is_receivers.binds fun _ _ _ _ _ _ us hl => match us, hl with | [_], _ => rfl
theorem En.b_check_receivers (S : En K mg) : Binds K S.d_check_receivers ["value"] [] := S.F_check_receivers.binds fun _ _ _ _ _ _ us hl => match us, hl with | [_], _ => rfl
theorem En.b_check_number (S : En K mg) : Binds K S.d_check_number ["value", "least", "greatest"] [] := S.F_check_number.binds fun _ _ _ _ _ _ us hl => match us, hl with | [_, _, _], _ => rfl
theorem En.b_episode_of (S : En K mg) : Binds K S.d_episode_of ["sending"] [] := S.F_episode_of.binds fun _ _ _ _ _ _ us hl => match us, hl with | [_], _ => rfl
theorem En.b_rule_for (S : En K mg) : Binds K S.d_rule_for ["book", "sending"] [] := S.F_rule_for.binds fun _ _ _ _ _ _ us hl => match us, hl with | [_, _], _ => rfl
theorem En.b_wished_names (S : En K mg) : Binds K S.d_wished_names ["book", "listing"] [] := S.F_wished_names.binds fun _ _ _ _ _ _ us hl => match us, hl with | [_, _], _ => rfl
theorem En.b_wishes (S : En K mg) : Binds K S.d_wishes ["book", "listing"] [] := S.F_wishes.binds fun _ _ _ _ _ _ us hl => match us, hl with | [_, _], _ => rfl
theorem En.b_sendings_of (S : En K mg) : Binds K S.d_sendings_of ["book", "listing", "episode"] [] := S.F_sendings_of.binds fun _ _ _ _ _ _ us hl => match us, hl with | [_, _, _], _ => rfl
theorem En.b_window (S : En K mg) : Binds K S.d_window ["book", "listing", "name"] [] := S.F_window.binds fun _ _ _ _ _ _ us hl => match us, hl with | [_, _, _], _ => rfl
theorem En.b_wished_windows (S : En K mg) : Binds K S.d_wished_windows ["book", "listing"] [] := S.F_wished_windows.binds fun _ _ _ _ _ _ us hl => match us, hl with | [_, _], _ => rfl
theorem En.b_windows_overlap (S : En K mg) : Binds K S.d_windows_overlap ["one", "other"] [] := S.F_windows_overlap.binds fun _ _ _ _ _ _ us hl => match us, hl with | [_, _], _ => rfl
theorem En.b_ascending (S : En K mg) : Binds K S.d_ascending ["plan"] [] := S.F_ascending.binds fun _ _ _ _ _ _ us hl => match us, hl with | [_], _ => rfl
theorem En.b_on_receiver (S : En K mg) : Binds K S.d_on_receiver ["windows", "plan", "receiver", "span"] [] := S.F_on_receiver.binds fun _ _ _ _ _ _ us hl => match us, hl with | [_, _, _, _], _ => rfl
theorem En.b_least_free (S : En K mg) : Binds K S.d_least_free ["windows", "plan", "span"] [] := S.F_least_free.binds fun _ _ _ _ _ _ us hl => match us, hl with | [_, _, _], _ => rfl
theorem En.b_taken_up (S : En K mg) : Binds K S.d_taken_up ["book", "listing", "receivers"] [] := S.F_taken_up.binds fun _ _ _ _ _ _ us hl => match us, hl with | [_, _, _], _ => rfl
theorem En.b_own_plan (S : En K mg) : Binds K S.d_own_plan ["book", "listing", "receivers"] [] := S.F_own_plan.binds fun _ _ _ _ _ _ us hl => match us, hl with | [_, _, _], _ => rfl
theorem En.b_begin_then_name (S : En K mg) : Binds K S.d_begin_then_name ["windows", "names"] [] := S.F_begin_then_name.binds fun _ _ _ _ _ _ us hl => match us, hl with | [_, _], _ => rfl
theorem En.b_recorded_minutes (S : En K mg) : Binds K S.d_recorded_minutes ["book", "listing", "receivers"] [] := S.F_recorded_minutes.binds fun _ _ _ _ _ _ us hl => match us, hl with | [_, _, _], _ => rfl
theorem En.b_minutes_of (S : En K mg) : Binds K S.d_minutes_of ["sizes", "names"] [] := S.F_minutes_of.binds fun _ _ _ _ _ _ us hl => match us, hl with | [_, _], _ => rfl
theorem En.b_among (S : En K mg) : Binds K S.d_among ["names", "others"] [] := S.F_among.binds fun _ _ _ _ _ _ us hl => match us, hl with | [_, _], _ => rfl
theorem En.b_on_disk (S : En K mg) : Binds K S.d_on_disk ["book", "listing", "receivers", "minutes", "protected"] [] := S.F_on_disk.binds fun _ _ _ _ _ _ us hl => match us, hl with | [_, _, _, _, _], _ => rfl
theorem En.b_least_disk (S : En K mg) : Binds K S.d_least_disk ["book", "listing", "receivers", "protected"] [] := S.F_least_disk.binds fun _ _ _ _ _ _ us hl => match us, hl with | [_, _, _, _], _ => rfl
theorem En.b_wrong_part_books (S : En K mg) : Binds K S.d_wrong_part_books ["show", "first", "last", "priority", "before", "after"] [] := S.F_wrong_part_books.binds fun _ _ _ _ _ _ us hl => match us, hl with | [_, _, _, _, _, _], _ => rfl
theorem En.b_wrong_part_listings (S : En K mg) : Binds K S.d_wrong_part_listings ["channel", "show", "episode", "begin", "end", "late"] [] := S.F_wrong_part_listings.binds fun _ _ _ _ _ _ us hl => match us, hl with | [_, _, _, _, _, _], _ => rfl
theorem En.b_law_mix (S : En K mg) : Binds K S.d_law_mix ["_law_script", "_law_seed"] [] := S.F_law_mix.binds fun _ _ _ _ _ _ us hl => match us, hl with | [_, _], _ => rfl
theorem En.b_law_next (S : En K mg) : Binds K S.d_law_next ["_law_h", "_law_limit"] [] := S.F_law_next.binds fun _ _ _ _ _ _ us hl => match us, hl with | [_, _], _ => rfl
theorem En.b_law_alike (S : En K mg) : Binds K S.d_law_alike ["_law_found", "_law_due"] [] := S.F_law_alike.binds fun _ _ _ _ _ _ us hl => match us, hl with | [_, _], _ => rfl
theorem En.b_law_sendings (S : En K mg) : Binds K S.d_law_sendings ["_law_h", "_law_many"] [] := S.F_law_sendings.binds fun _ _ _ _ _ _ us hl => match us, hl with | [_, _], _ => rfl
theorem En.b_law_rules (S : En K mg) : Binds K S.d_law_rules ["_law_h", "_law_many"] [] := S.F_law_rules.binds fun _ _ _ _ _ _ us hl => match us, hl with | [_, _], _ => rfl
theorem En.b_law_drawn (S : En K mg) : Binds K S.d_law_drawn ["_law_h", "_law_many"] [] := S.F_law_drawn.binds fun _ _ _ _ _ _ us hl => match us, hl with | [_, _], _ => rfl
theorem En.b_law_listing (S : En K mg) : Binds K S.d_law_listing ["_law_sendings_here"] [] := S.F_law_listing.binds fun _ _ _ _ _ _ us hl => match us, hl with | [_], _ => rfl
theorem En.b_law_book (S : En K mg) : Binds K S.d_law_book ["_law_rules_here", "_law_seen"] [] := S.F_law_book.binds fun _ _ _ _ _ _ us hl => match us, hl with | [_, _], _ => rfl
theorem En.b_law_rule (S : En K mg) : Binds K S.d_law_rule ["_law_drawn_here", "_law_name"] [] := S.F_law_rule.binds fun _ _ _ _ _ _ us hl => match us, hl with | [_, _], _ => rfl
theorem En.b_law_groups (S : En K mg) : Binds K S.d_law_groups ["_law_drawn_here"] [] := S.F_law_groups.binds fun _ _ _ _ _ _ us hl => match us, hl with | [_], _ => rfl
theorem En.b_law_window (S : En K mg) : Binds K S.d_law_window ["_law_drawn_here", "_law_name"] [] := S.F_law_window.binds fun _ _ _ _ _ _ us hl => match us, hl with | [_, _], _ => rfl
theorem En.b_law_cross (S : En K mg) : Binds K S.d_law_cross ["_law_drawn_here", "_law_one", "_law_other"] [] := S.F_law_cross.binds fun _ _ _ _ _ _ us hl => match us, hl with | [_, _, _], _ => rfl
theorem En.b_law_taken (S : En K mg) : Binds K S.d_law_taken ["_law_drawn_here", "_law_receivers"] [] := S.F_law_taken.binds fun _ _ _ _ _ _ us hl => match us, hl with | [_, _], _ => rfl
theorem En.b_law_refused (S : En K mg) : Binds K S.d_law_refused ["_law_work"] [] := S.F_law_refused.binds fun _ _ _ _ _ _ us hl => match us, hl with | [_], _ => rfl
theorem En.b_law_stored (S : En K mg) : Binds K S.d_law_stored ["_law_drawn_here", "_law_taken_here", "_law_minutes", "_law_safe"] [] := S.F_law_stored.binds fun _ _ _ _ _ _ us hl => match us, hl with | [_, _, _, _], _ => rfl
theorem En.e5_Rule_init (S : En K mg) : ∃ ds, Vals (List.drop 0 [.int 0, .int 0]) ds ∧ Binds K S.d_Rule_init ["self", "show", "first", "last", "priority", "before", "after"] ds := FunD.binds1 S.F_Rule_init 5 0 (by simp) rfl fun _ _ _ _ _ _ _ us its hl hi => match us, its, hl, hi with | [_, _, _, _, _], [_, _], _, _ => ⟨_, rfl, rfl⟩
noncomputable def En.w5_Rule_init (S : En K mg) : List Value := Classical.choose S.e5_Rule_init
theorem En.v5_Rule_init (S : En K mg) : Vals (List.drop 0 [.int 0, .int 0]) S.w5_Rule_init := (Classical.choose_spec S.e5_Rule_init).1
theorem En.b5_Rule_init (S : En K mg) : Binds K S.d_Rule_init ["self", "show", "first", "last", "priority", "before", "after"] S.w5_Rule_init := (Classical.choose_spec S.e5_Rule_init).2
theorem En.e7_Rule_init (S : En K mg) : ∃ ds, Vals (List.drop 2 [.int 0, .int 0]) ds ∧ Binds K S.d_Rule_init ["self", "show", "first", "last", "priority", "before", "after"] ds := FunD.binds1 S.F_Rule_init 7 2 (by simp) rfl fun _ _ _ _ _ _ _ us its hl hi => match us, its, hl, hi with | [_, _, _, _, _, _, _], [_, _], _, _ => ⟨_, rfl, rfl⟩
noncomputable def En.w7_Rule_init (S : En K mg) : List Value := Classical.choose S.e7_Rule_init
theorem En.v7_Rule_init (S : En K mg) : Vals (List.drop 2 [.int 0, .int 0]) S.w7_Rule_init := (Classical.choose_spec S.e7_Rule_init).1
theorem En.b7_Rule_init (S : En K mg) : Binds K S.d_Rule_init ["self", "show", "first", "last", "priority", "before", "after"] S.w7_Rule_init := (Classical.choose_spec S.e7_Rule_init).2
theorem En.b_Rule_show (S : En K mg) : Binds K S.d_Rule_show ["self"] [] := S.F_Rule_show.binds fun _ _ _ _ _ _ us hl => match us, hl with | [_], _ => rfl
theorem En.b_Rule_first (S : En K mg) : Binds K S.d_Rule_first ["self"] [] := S.F_Rule_first.binds fun _ _ _ _ _ _ us hl => match us, hl with | [_], _ => rfl
theorem En.b_Rule_last (S : En K mg) : Binds K S.d_Rule_last ["self"] [] := S.F_Rule_last.binds fun _ _ _ _ _ _ us hl => match us, hl with | [_], _ => rfl
theorem En.b_Rule_priority (S : En K mg) : Binds K S.d_Rule_priority ["self"] [] := S.F_Rule_priority.binds fun _ _ _ _ _ _ us hl => match us, hl with | [_], _ => rfl
theorem En.b_Rule_before (S : En K mg) : Binds K S.d_Rule_before ["self"] [] := S.F_Rule_before.binds fun _ _ _ _ _ _ us hl => match us, hl with | [_], _ => rfl
theorem En.b_Rule_after (S : En K mg) : Binds K S.d_Rule_after ["self"] [] := S.F_Rule_after.binds fun _ _ _ _ _ _ us hl => match us, hl with | [_], _ => rfl
theorem En.e2_Book_init (S : En K mg) : ∃ ds, Vals (List.drop 0 [.ref S.a_Book_init]) ds ∧ Binds K S.d_Book_init ["self", "rules", "seen"] ds := FunD.binds1 S.F_Book_init 2 0 (by simp) rfl fun _ _ _ _ _ _ _ us its hl hi => match us, its, hl, hi with | [_, _], [_], _, _ => ⟨_, rfl, rfl⟩
noncomputable def En.w2_Book_init (S : En K mg) : List Value := Classical.choose S.e2_Book_init
theorem En.v2_Book_init (S : En K mg) : Vals (List.drop 0 [.ref S.a_Book_init]) S.w2_Book_init := (Classical.choose_spec S.e2_Book_init).1
theorem En.b2_Book_init (S : En K mg) : Binds K S.d_Book_init ["self", "rules", "seen"] S.w2_Book_init := (Classical.choose_spec S.e2_Book_init).2
theorem En.e3_Book_init (S : En K mg) : ∃ ds, Vals (List.drop 1 [.ref S.a_Book_init]) ds ∧ Binds K S.d_Book_init ["self", "rules", "seen"] ds := FunD.binds1 S.F_Book_init 3 1 (by simp) rfl fun _ _ _ _ _ _ _ us its hl hi => match us, its, hl, hi with | [_, _, _], [_], _, _ => ⟨_, rfl, rfl⟩
noncomputable def En.w3_Book_init (S : En K mg) : List Value := Classical.choose S.e3_Book_init
theorem En.v3_Book_init (S : En K mg) : Vals (List.drop 1 [.ref S.a_Book_init]) S.w3_Book_init := (Classical.choose_spec S.e3_Book_init).1
theorem En.b3_Book_init (S : En K mg) : Binds K S.d_Book_init ["self", "rules", "seen"] S.w3_Book_init := (Classical.choose_spec S.e3_Book_init).2
theorem En.b_Book_rule_of (S : En K mg) : Binds K S.d_Book_rule_of ["self", "show", "episode"] [] := S.F_Book_rule_of.binds fun _ _ _ _ _ _ us hl => match us, hl with | [_, _, _], _ => rfl
theorem En.e6_Sending_init (S : En K mg) : ∃ ds, Vals (List.drop 0 [.int 0]) ds ∧ Binds K S.d_Sending_init ["self", "channel", "show", "episode", "begin", "end", "late"] ds := FunD.binds1 S.F_Sending_init 6 0 (by simp) rfl fun _ _ _ _ _ _ _ us its hl hi => match us, its, hl, hi with | [_, _, _, _, _, _], [_], _, _ => ⟨_, rfl, rfl⟩
noncomputable def En.w6_Sending_init (S : En K mg) : List Value := Classical.choose S.e6_Sending_init
theorem En.v6_Sending_init (S : En K mg) : Vals (List.drop 0 [.int 0]) S.w6_Sending_init := (Classical.choose_spec S.e6_Sending_init).1
theorem En.b6_Sending_init (S : En K mg) : Binds K S.d_Sending_init ["self", "channel", "show", "episode", "begin", "end", "late"] S.w6_Sending_init := (Classical.choose_spec S.e6_Sending_init).2
theorem En.e7_Sending_init (S : En K mg) : ∃ ds, Vals (List.drop 1 [.int 0]) ds ∧ Binds K S.d_Sending_init ["self", "channel", "show", "episode", "begin", "end", "late"] ds := FunD.binds1 S.F_Sending_init 7 1 (by simp) rfl fun _ _ _ _ _ _ _ us its hl hi => match us, its, hl, hi with | [_, _, _, _, _, _, _], [_], _, _ => ⟨_, rfl, rfl⟩
noncomputable def En.w7_Sending_init (S : En K mg) : List Value := Classical.choose S.e7_Sending_init
theorem En.v7_Sending_init (S : En K mg) : Vals (List.drop 1 [.int 0]) S.w7_Sending_init := (Classical.choose_spec S.e7_Sending_init).1
theorem En.b7_Sending_init (S : En K mg) : Binds K S.d_Sending_init ["self", "channel", "show", "episode", "begin", "end", "late"] S.w7_Sending_init := (Classical.choose_spec S.e7_Sending_init).2
theorem En.b_Sending_show (S : En K mg) : Binds K S.d_Sending_show ["self"] [] := S.F_Sending_show.binds fun _ _ _ _ _ _ us hl => match us, hl with | [_], _ => rfl
theorem En.b_Sending_episode (S : En K mg) : Binds K S.d_Sending_episode ["self"] [] := S.F_Sending_episode.binds fun _ _ _ _ _ _ us hl => match us, hl with | [_], _ => rfl
theorem En.b_Sending_begin (S : En K mg) : Binds K S.d_Sending_begin ["self"] [] := S.F_Sending_begin.binds fun _ _ _ _ _ _ us hl => match us, hl with | [_], _ => rfl
theorem En.b_Sending_end (S : En K mg) : Binds K S.d_Sending_end ["self"] [] := S.F_Sending_end.binds fun _ _ _ _ _ _ us hl => match us, hl with | [_], _ => rfl
theorem En.b_Listing_init (S : En K mg) : Binds K S.d_Listing_init ["self", "sendings"] [] := S.F_Listing_init.binds fun _ _ _ _ _ _ us hl => match us, hl with | [_, _], _ => rfl
theorem En.b_Listing_names (S : En K mg) : Binds K S.d_Listing_names ["self"] [] := S.F_Listing_names.binds fun _ _ _ _ _ _ us hl => match us, hl with | [_], _ => rfl
theorem En.b_Listing_getitem (S : En K mg) : Binds K S.d_Listing_getitem ["self", "name"] [] := S.F_Listing_getitem.binds fun _ _ _ _ _ _ us hl => match us, hl with | [_, _], _ => rfl
theorem En.b_InvalidSending_init (S : En K mg) : Binds K S.d_InvalidSending_init ["self", "part"] [] := S.F_InvalidSending_init.binds fun _ _ _ _ _ _ us hl => match us, hl with | [_, _], _ => rfl
theorem En.b_InvalidListing_init (S : En K mg) : Binds K S.d_InvalidListing_init ["self", "name"] [] := S.F_InvalidListing_init.binds fun _ _ _ _ _ _ us hl => match us, hl with | [_, _], _ => rfl
theorem En.b_InvalidRule_init (S : En K mg) : Binds K S.d_InvalidRule_init ["self", "part"] [] := S.F_InvalidRule_init.binds fun _ _ _ _ _ _ us hl => match us, hl with | [_, _], _ => rfl
abbrev En.tp_law (S : En K mg) : Addr := He.tabOf K S.tc_law
end
section
variable {P : Program} {w : World} {K : PySem.W.Frag} {mg : Str → Option Value} {base : Heap}
theorem ok_InvalidSending (S : En K mg) : FnOk P w K mg base CX0 1 S.f_InvalidSending_init S.d_InvalidSending_init ["self", "part"] (spX1 "part" S.C_InvalidSending) := ok_x1 S.F_InvalidSending_init sc_InvalidSending_init S.T_InvalidSending S.nf_InvalidSending (fun _ _ _ _ _ _ => pss_one (ps_ost (pv 0) (pv 1)))
theorem ok_InvalidListing (S : En K mg) : FnOk P w K mg base CX0 1 S.f_InvalidListing_init S.d_InvalidListing_init ["self", "name"] (spX1 "name" S.C_InvalidListing) := ok_x1 S.F_InvalidListing_init sc_InvalidListing_init S.T_InvalidListing S.nf_InvalidListing (fun _ _ _ _ _ _ => pss_one (ps_ost (pv 0) (pv 1)))
theorem ok_InvalidRule (S : En K mg) : FnOk P w K mg base CX0 1 S.f_InvalidRule_init S.d_InvalidRule_init ["self", "part"] (spX1 "part" S.C_InvalidRule) := ok_x1 S.F_InvalidRule_init sc_InvalidRule_init S.T_InvalidRule S.nf_InvalidRule (fun _ _ _ _ _ _ => pss_one (ps_ost (pv 0) (pv 1)))
end
section
variable {P : Program} {w : World} {K : PySem.W.Frag} {mg : Str → Option Value} {base : Heap}
theorem ok_is_word (S : En K mg) : FnOk P w K mg base (L2.CX P w) 1 S.f_is_word S.d_is_word ["value"] (lowF K ctWord) := by
  refine fn_low _ S.F_is_word sc_is_word (fun ss st ok ex h => ?_) ?_ (fun cdv A outer s H E hr tk po => (bone (sret (dand (disi K S.n_isinstance S.n_str kb_str (dv 0)) (dand (dchain op_le op_le lr_le lr_le di (dcb call_len_str lc_lenS S.n_len PySem.boot_len (acons (dv 0) anil)) di) (done (dcb (cr_all rfl) lc_all S.n_all PyProof.Rows.boot_all (acons (dlc [("letter", 1)] sc_is_word.nd (iS (dv 0)) (blkOk_by (N := ["value", "letter"]) (sc := defScope s_is_word) (by decide +kernel)) (fun _ _ _ _ _ => (gwname 1 sc_is_word.nd)) (fun _ _ _ _ _ => tsnil) (fun _ _ _ _ _ => (dchain op_le_str op_le_str lr_leStr lr_leStr ds (dv 1) ds))) anil))))))))
  · (repeat (first | (obtain ⟨rfl, _⟩ := h; rfl) | (obtain ⟨_, h⟩ := h)))
  · rintro ss st ok ex ⟨x, rfl, hx, k⟩
    cases x with
    | str z =>
      walk_at "d"
      walk_at "w"
      refine ⟨hx, ?_⟩
      walk_at "w"
      refine ⟨fun h1 => ?_, fun h1 => ?_⟩
      · walk_at "w"
        refine ⟨fun h2 => ?_, fun h2 => ?_⟩
        · walk_at "w"
          have hl8 : z.cps.toList.length ≤ sizeLine := hx
          refine lc_pure z.cps.toList (fun c => .str ⟨#[c]⟩) (fun c => some (.bl (decide (97 ≤ c) && decide (c ≤ 122)))) rfl ?_ ?_
          · intro i c D acc hc hD J
            walk_at "d"
            walk_at "w"
            have e1 : (!decide ((⟨#[c]⟩ : Str).cps.toList < (Str.ofString "a").cps.toList)) = decide (97 ≤ c) := le_a c
            have e2 : (!decide ((Str.ofString "z").cps.toList < (⟨#[c]⟩ : Str).cps.toList)) = decide (c ≤ 122) := le_z c
            refine ⟨fun h => ?_, fun h => ?_⟩
            · walk_at "w"
              have h' : decide (97 ≤ c) = true := by rw [← e1]; exact h
              exact lc_yes hl8 hc J (by rw [h', Bool.true_and, ← e2])
            · walk_at "w"
              have h' : decide (97 ≤ c) = false := by rw [← e1]; exact h
              exact lc_yes hl8 hc J (by rw [h', Bool.false_and])
          · walk_at "w"
            refine ⟨z.cps.toList.map fun c => decide (97 ≤ c) && decide (c ≤ 122), ?_, ?_⟩
            · rw [List.map_map, ← List.filterMap_eq_map]
              rfl
            · walk_at "f"
              have hk : wordD (.str z) = (z.cps.toList.map fun c => decide (97 ≤ c) && decide (c ≤ 122)).all id := by
                unfold wordD isWord
                dsimp only
                rw [h1, h2, List.all_map]
                rfl
              rw [hk] at k
              exact k
        · walk_at "f"
          have hk : wordD (.str z) = false := by unfold wordD isWord; dsimp only; rw [h2, Bool.and_false, Bool.false_and]
          rw [hk] at k
          exact k
      · walk_at "d"
        walk_at "f"
        have hk : wordD (.str z) = false := by unfold wordD isWord; dsimp only; rw [h1, Bool.false_and, Bool.false_and]
        rw [hk] at k
        exact k
    | non => walk_at "d"; walk_at "f"; exact k
    | bl b => walk_at "d"; walk_at "f"; exact k
    | int i => walk_at "d"; walk_at "f"; exact k
    | _ => cases hx
theorem ok_is_number (S : En K mg) : FnOk P w K mg base (L2.CX P w) 1 S.f_is_number S.d_is_number ["value", "least", "greatest"] (lowF K ctNum) := by
  refine fn_low _ S.F_is_number sc_is_number (fun ss st ok ex h => ?_) ?_ (fun cdv A outer s H E hr tk po => (bone (sret (dand (disi K S.n_isinstance S.n_int kb_int (dv 0)) (dand (dnot (disi K S.n_isinstance S.n_bool kb_bool (dv 0))) (done (dchain op_le op_le lr_le lr_le (dv 1) (dv 0) (dv 2))))))))
  · (repeat (first | (obtain ⟨rfl, _⟩ := h; rfl) | (obtain ⟨_, h⟩ := h)))
  · rintro ss st ok ex ⟨x, a, b, rfl, hx, k⟩
    cases x with
    | int i =>
      walk_at "d"
      walk_at "d"
      walk_at "w"
      refine ⟨fun h => ?_, fun h => ?_⟩
      · walk_at "f"
        have hk : isNum (.int i) a b = decide (i ≤ b) := by unfold isNum; dsimp only; rw [h, Bool.true_and]
        rw [hk] at k
        exact k
      · walk_at "f"
        have hk : isNum (.int i) a b = false := by unfold isNum; dsimp only; rw [h, Bool.false_and]
        rw [hk] at k
        exact k
    | non => walk_at "d"; walk_at "f"; exact k
    | bl b => walk_at "d"; walk_at "d"; walk_at "f"; exact k
    | str i => walk_at "d"; walk_at "f"; exact k
    | _ => cases hx
theorem ok_Listing_getitem (S : En K mg) : FnOk P w K mg base (L2.CX P w) 1 S.f_Listing_getitem S.d_Listing_getitem ["self", "name"] (lowF K (ctItem ⟨S.C_Book, S.C_Rule, S.C_Listing, S.C_Sending⟩)) := by
  refine fn_low _ S.F_Listing_getitem sc_Listing_getitem (fun ss st ok ex h => ?_) ?_ (fun cdv A outer s H E hr tk po => (bcons (sif (tdNi (hu1 hr) (dv 1) (dfld K (dv 0)))
   (bone (sraise0 PySem.F.excBase_ValueError S.x_UnknownName S.g_UnknownName S.kc_UnknownName (raises_own S.r_UnknownName S.ty_UnknownName) tk)) bnil)
  (bone (sret (ddget (hu1 hr) (dfld K (dv 0)) (dv 1))))))
  · rw [ctItem_eq] at h; obtain ⟨_, _, _, rfl, _⟩ := h; rfl
  · intro ss st ok ex h
    rw [ctItem_eq] at h
    obtain ⟨l, n, x, rfl, hx, k⟩ := h
    walk_at "w"
    refine ⟨S.cl_Listing, S.na_Listing_sendings, _, rfl, ?_⟩
    walk_at "w"
    refine ⟨.inr n, rfl, ?_⟩
    have e := getD_dic (Snd.d S.C_Sending) l n
    rw [hx] at e
    rw [e]
    refine ⟨fun h => absurd h Bool.false_ne_true, fun _ => ?_⟩
    walk_at "w"
    refine ⟨S.cl_Listing, S.na_Listing_sendings, _, rfl, ?_⟩
    walk_at "w"
    refine ⟨.inr n, _, rfl, e, ?_⟩
    walk_at "f"
    exact k
theorem ok_is_receivers (S : En K mg) : FnOk P w K mg base (L2.CX P w) 2 S.f_is_receivers S.d_is_receivers ["value"] (lowF K ctIsRecX) := by
  refine fn_low _ S.F_is_receivers sc_is_receivers (fun ss st ok ex h => ?_) ?_ (fun cdv A outer s H E hr tk po => (bone (sret (dcall (dds := []) (ok_is_number S) (hr.mono (by decide)) S.g_is_number S.F_is_number.kp S.b_is_number .nil (fun _ => .nil) tk (acons (dv 0) (acons di (acons (dgl S.c_MOST_RECEIVERS S.r_MOST_RECEIVERS) anil)))))))
  · rcases h with ⟨_, rfl, _⟩ | ⟨_, rfl, _⟩ <;> rfl
  · rintro ss st ok ex (⟨k0, rfl, h1, h2, k⟩ | ⟨d, rfl, ⟨hp, hd⟩, k⟩)
    · walk_at "w"
      refine ⟨.int k0, 1, 10, rfl, trivial, ?_⟩
      rw [show isNum (.int (k0 : Int)) 1 10 = true by unfold isNum; dsimp only; rw [decide_eq_true (by omega), decide_eq_true (by omega)]; rfl]
      walk_at "f"
      exact k
    · walk_at "w"
      refine ⟨d, 1, 10, rfl, hp, ?_⟩
      rw [hd]
      walk_at "f"
      exact k
theorem ok_check_receivers (S : En K mg) : FnOk P w K mg base (L2.CX P w) 3 S.f_check_receivers S.d_check_receivers ["value"] (lowF K (ctChkRecX S.C_InvalidNumber)) := by
  refine fn_low _ S.F_check_receivers sc_check_receivers (fun ss st ok ex h => ?_) ?_ (fun cdv A outer s H E hr tk po => (bone (sif (tnot (tval (dcall (dds := []) (ok_is_receivers S) (hr.mono (by decide)) S.g_is_receivers S.F_is_receivers.kp S.b_is_receivers .nil (fun _ => .nil) tk (acons (dv 0) anil))))
   (bone (sraise0 PySem.F.excBase_ValueError S.x_InvalidNumber S.g_InvalidNumber S.kc_InvalidNumber (raises_own S.r_InvalidNumber S.ty_InvalidNumber) tk)) bnil)))
  · rcases h with ⟨_, rfl, _⟩ | ⟨_, rfl, _⟩ <;> rfl
  · rintro ss st ok ex (⟨k0, rfl, h1, h2, k⟩ | ⟨d, rfl, hd, k⟩)
    · walk_at "w"
      refine Or.inl ⟨k0, rfl, h1, h2, ?_⟩
      walk_at "dd"
      walk_at "w"
      exact ⟨_, List.Sublist.refl _, k⟩
    · walk_at "w"
      refine Or.inr ⟨d, rfl, hd, ?_⟩
      walk_at "ss"
      exact ⟨st, List.Sublist.refl _, k⟩
theorem ok_check_number (S : En K mg) : FnOk P w K mg base (L2.CX P w) 2 S.f_check_number S.d_check_number ["value", "least", "greatest"] (lowF K (ctChkNumX S.C_InvalidNumber)) := by
  refine fn_low _ S.F_check_number sc_check_number (fun ss st ok ex h => ?_) ?_ (fun cdv A outer s H E hr tk po => (bone (sif (tnot (tval (dcall (dds := []) (ok_is_number S) (hr.mono (by decide)) S.g_is_number S.F_is_number.kp S.b_is_number .nil (fun _ => .nil) tk (acons (dv 0) (acons (dv 1) (acons (dv 2) anil))))))
   (bone (sraiseA PySem.F.excBase_ValueError S.x_InvalidNumber S.g_InvalidNumber S.kc_InvalidNumber (raises_own S.r_InvalidNumber S.ty_InvalidNumber) tk (acons (djoin (.cons ds (.cons (dfmt (dv 1)) (.cons ds (.cons (dfmt (dv 2)) .nil))))) anil))) bnil)))
  · rcases h with ⟨_, _, _, rfl, _⟩ | ⟨_, rfl, _⟩ <;> rfl
  · rintro ss st ok ex (⟨m, a, z, rfl, h1, h2, k⟩ | ⟨d, rfl, ⟨hd1, hd2⟩, k⟩)
    · walk_at "w"
      refine ⟨.int m, a, z, rfl, trivial, ?_⟩
      have e : isNum (.int m) a z = true := by unfold isNum; dsimp only; rw [decide_eq_true h1, decide_eq_true h2]; rfl
      rw [e]
      refine ⟨fun c => absurd c (by decide), fun _ => ?_⟩
      walk_at "w"
      exact ⟨st, List.Sublist.refl _, k⟩
    · walk_at "w"
      refine ⟨d, 1, 1000000, rfl, hd1, ?_⟩
      rw [hd2]
      refine ⟨fun _ => ?_, fun c => absurd c (by decide)⟩
      walk_at "w"
      refine ⟨by rw [sizeLine_eq]; decide +kernel, ?_⟩
      walk_at "w"
      refine ⟨by decide +kernel, ?_⟩
      walk_at "w"
      refine ⟨by rw [sizeLine_eq]; decide +kernel, ?_⟩
      walk_at "w"
      refine ⟨by rw [sizeLine_eq]; decide +kernel, ?_⟩
      walk_at "w"
      refine ⟨by decide +kernel, ?_⟩
      walk_at "w"
      refine ⟨by rw [sizeLine_eq]; decide +kernel, ?_⟩
      walk_at "w"
      refine ⟨by rw [sizeLine_eq]; decide, ?_⟩
      exact ⟨st, List.Sublist.refl _, k⟩
theorem ok_Rule_show (S : En K mg) : FnOk P w K mg base (L2.CX P w) 1 S.f_Rule_show S.d_Rule_show ["self"] (lowF K (ctGet S.C_Rule "_show")) := by
  refine fn_low _ S.F_Rule_show sc_Rule_show (fun ss st ok ex h => ?_) ?_ (fun cdv A outer s H E hr tk po => (bone (sret (dfld K (dv 0)))))
  · (repeat (first | (obtain ⟨rfl, _⟩ := h; rfl) | (obtain ⟨_, h⟩ := h)))
  · rintro ss st ok ex ⟨fs, d, rfl, hl, k⟩
    walk_at "w"
    refine ⟨S.cl_Rule, S.na_Rule_show, d, hl, ?_⟩
    walk_at "f"
    exact k
theorem ok_Sending_show (S : En K mg) : FnOk P w K mg base (L2.CX P w) 1 S.f_Sending_show S.d_Sending_show ["self"] (lowF K (ctGet S.C_Sending "_show")) := by
  refine fn_low _ S.F_Sending_show sc_Sending_show (fun ss st ok ex h => ?_) ?_ (fun cdv A outer s H E hr tk po => (bone (sret (dfld K (dv 0)))))
  · (repeat (first | (obtain ⟨rfl, _⟩ := h; rfl) | (obtain ⟨_, h⟩ := h)))
  · rintro ss st ok ex ⟨fs, d, rfl, hl, k⟩
    walk_at "w"
    refine ⟨S.cl_Sending, S.na_Sending_show, d, hl, ?_⟩
    walk_at "f"
    exact k
theorem ok_Sending_episode (S : En K mg) : FnOk P w K mg base (L2.CX P w) 1 S.f_Sending_episode S.d_Sending_episode ["self"] (lowF K (ctGet S.C_Sending "_episode")) := by
  refine fn_low _ S.F_Sending_episode sc_Sending_episode (fun ss st ok ex h => ?_) ?_ (fun cdv A outer s H E hr tk po => (bone (sret (dfld K (dv 0)))))
  · (repeat (first | (obtain ⟨rfl, _⟩ := h; rfl) | (obtain ⟨_, h⟩ := h)))
  · rintro ss st ok ex ⟨fs, d, rfl, hl, k⟩
    walk_at "w"
    refine ⟨S.cl_Sending, S.na_Sending_episode, d, hl, ?_⟩
    walk_at "f"
    exact k
theorem ok_episode_of (S : En K mg) : FnOk P w K mg base (L2.CX P w) 3 S.f_episode_of S.d_episode_of ["sending"] (lowF K (ctEp ⟨S.C_Book, S.C_Rule, S.C_Listing, S.C_Sending⟩)) := by
  refine fn_low _ S.F_episode_of sc_episode_of (fun ss st ok ex h => ?_) ?_ (fun cdv A outer s H E hr tk po => (bone (sret (dtup (acons (dprop S.cl_Sending S.p_Sending_show (ok_Sending_show S) (hr.mono (by decide)) S.b_Sending_show (dv 0)) (acons (dprop S.cl_Sending S.p_Sending_episode (ok_Sending_episode S) (hr.mono (by decide)) S.b_Sending_episode (dv 0)) anil))))))
  · (repeat (first | (obtain ⟨rfl, _⟩ := h; rfl) | (obtain ⟨_, h⟩ := h)))
  · rintro ss st ok ex ⟨x, rfl, k⟩
    walk_at "w"
    refine ⟨rfl, _, _, rfl, rfl, ?_⟩
    walk_at "w"
    refine ⟨rfl, _, _, rfl, rfl, ?_⟩
    walk_at "zz"
    walk_at "f"
    exact k
theorem ok_Rule_first (S : En K mg) : FnOk P w K mg base (L2.CX P w) 1 S.f_Rule_first S.d_Rule_first ["self"] (lowF K (ctGet S.C_Rule "_first")) := by
  refine fn_low _ S.F_Rule_first sc_Rule_first (fun ss st ok ex h => ?_) ?_ (fun cdv A outer s H E hr tk po => (bone (sret (dfld K (dv 0)))))
  · (repeat (first | (obtain ⟨rfl, _⟩ := h; rfl) | (obtain ⟨_, h⟩ := h)))
  · rintro ss st ok ex ⟨fs, d, rfl, hl, k⟩
    walk_at "w"
    refine ⟨S.cl_Rule, S.na_Rule_first, d, hl, ?_⟩
    walk_at "f"
    exact k
theorem ok_Rule_last (S : En K mg) : FnOk P w K mg base (L2.CX P w) 1 S.f_Rule_last S.d_Rule_last ["self"] (lowF K (ctGet S.C_Rule "_last")) := by
  refine fn_low _ S.F_Rule_last sc_Rule_last (fun ss st ok ex h => ?_) ?_ (fun cdv A outer s H E hr tk po => (bone (sret (dfld K (dv 0)))))
  · (repeat (first | (obtain ⟨rfl, _⟩ := h; rfl) | (obtain ⟨_, h⟩ := h)))
  · rintro ss st ok ex ⟨fs, d, rfl, hl, k⟩
    walk_at "w"
    refine ⟨S.cl_Rule, S.na_Rule_last, d, hl, ?_⟩
    walk_at "f"
    exact k
theorem ok_Book_rule_of (S : En K mg) : FnOk P w K mg base (L2.CX P w) 3 S.f_Book_rule_of S.d_Book_rule_of ["self", "show", "episode"] (lowF K (ctRuleOf ⟨S.C_Book, S.C_Rule, S.C_Listing, S.C_Sending⟩)) := by
  refine fn_low _ S.F_Book_rule_of sc_Book_rule_of (fun ss st ok ex h => ?_) ?_ (fun cdv A outer s H E hr tk po => (bcons (sif (tsIn hr (dtup (acons (dv 1) (acons (dv 2) anil))) (dfld K (dv 0)))
   (bone (sret dn)) bnil)
  (bcons (sfor po (iT (dfld K (dv 0))) (gname 3 sc_Book_rule_of.nd)
   (bone (sif (tw (wand (tcmp op_eq lr_eqS (dprop S.cl_Rule S.p_Rule_show (ok_Rule_show S) (hr.mono (by decide)) S.b_Rule_show (dv 3)) (dv 1) (nomark _)) (wand1 (tchain op_le op_le lr_le lr_le (dprop S.cl_Rule S.p_Rule_first (ok_Rule_first S) (hr.mono (by decide)) S.b_Rule_first (dv 3)) (dv 2) (dprop S.cl_Rule S.p_Rule_last (ok_Rule_last S) (hr.mono (by decide)) S.b_Rule_last (dv 3))))))
   (bone (sret (dv 3))) bnil)))
  (bone (sret dn)))))
  · rw [ctRuleOf_eq] at h; obtain ⟨_, _, _, rfl, _⟩ := h; rfl
  · intro ss st ok ex h
    rw [ctRuleOf_eq] at h
    obtain ⟨b, s, e, rfl, hb, hs, k⟩ := h
    walk_at "zz"
    refine ⟨S.cl_Book, S.na_Book_seen, _, rfl, ?_⟩
    walk_at "w"
    refine ⟨epP (s, e), b.seen.map epP, ep_of (s, e), eps_of _, ep_shaped (s, e) hs, eps_lay _ hb.sok, ?_⟩
    rw [ep_any]
    unfold ruleOf at k
    refine ⟨fun h => ?_, fun h => ?_⟩
    · have h' := of_decide_eq_true h
      rw [if_pos h'] at k
      walk_at "f"
      exact k
    have h' := of_decide_eq_false h
    rw [if_neg h'] at k
    walk_at "w"
    refine ⟨S.cl_Book, S.na_Book_rules, _, rfl, ?_⟩
    walk_at "w"
    refine loop_find b.rules (Rul.d S.C_Rule) (fun r => decide (r.show_ = s) && (decide (r.first ≤ e) && decide (e ≤ r.last))) (fun Δ st' => Δ.length = 4 ∧ (Δ.take 3) = [.dat (b.d ⟨S.C_Book, S.C_Rule, S.C_Listing, S.C_Sending⟩), .dat (.str s), dI e] ∧ st' = st) (by simp) ⟨rfl, rfl, rfl⟩ ?_ ?_
    · rintro i r Δ' st' hi J
      obtain ⟨h1, h2, h3⟩ := J.r
      subst h3
      obtain ⟨v, rfl⟩ : ∃ v, Δ' = [.dat (b.d ⟨S.C_Book, S.C_Rule, S.C_Listing, S.C_Sending⟩), .dat (.str s), dI e, v] := by
        match Δ', h1, h2 with
        | [_, _, _, v], _, h2 => cases h2; exact ⟨v, rfl⟩
      walk_at "w"
      refine ⟨rfl, _, _, rfl, rfl, ?_⟩
      walk_at "w"
      refine ⟨fun e1 => ?_, fun e1 => ?_⟩
      · walk_at "w"
        refine ⟨rfl, _, _, rfl, rfl, ?_⟩
        walk_at "w"
        refine ⟨fun e2 => ?_, fun e2 => ?_⟩
        · walk_at "w"
          refine ⟨rfl, _, _, rfl, rfl, ?_⟩
          walk_at "w"
          refine ⟨fun e3 => ?_, fun e3 => ?_⟩
          · walk_at "f"
            have hp : (decide (r.show_ = s) && (decide (r.first ≤ e) && decide (e ≤ r.last))) = true := by
              rw [show decide (r.show_ = s) = true from e1, show decide (r.first ≤ e) = true from e2, show decide (e ≤ r.last) = true from e3]; rfl
            rw [fj_yes hi J hp] at k
            exact k
          · walk_at "w"
            refine fj_no hi J ?_ ⟨rfl, rfl, rfl⟩
            show (decide (r.show_ = s) && (decide (r.first ≤ e) && decide (e ≤ r.last))) = false
            rw [show decide (r.show_ = s) = true from e1, show decide (r.first ≤ e) = true from e2, show decide (e ≤ r.last) = false from e3]; rfl
        · walk_at "ss"
          refine fj_no hi J ?_ ⟨rfl, rfl, rfl⟩
          show (decide (r.show_ = s) && (decide (r.first ≤ e) && decide (e ≤ r.last))) = false
          rw [show decide (r.show_ = s) = true from e1, show decide (r.first ≤ e) = false from e2]; rfl
      · walk_at "ss"
        refine fj_no hi J ?_ ⟨rfl, rfl, rfl⟩
        show (decide (r.show_ = s) && (decide (r.first ≤ e) && decide (e ≤ r.last))) = false
        rw [show decide (r.show_ = s) = false from e1]; rfl
    · rintro Δ' st' ⟨h1, h2, h3⟩ hn
      subst h3
      rw [hn] at k
      walk_at "f"
      exact k
theorem ok_rule_for (S : En K mg) : FnOk P w K mg base (L2.CX P w) 4 S.f_rule_for S.d_rule_for ["book", "sending"] (lowF K (ctRuleFor ⟨S.C_Book, S.C_Rule, S.C_Listing, S.C_Sending⟩)) := by
  refine fn_low _ S.F_rule_for sc_rule_for (fun ss st ok ex h => ?_) ?_ (fun cdv A outer s H E hr tk po => (bone (sret (dmeth (dds := []) S.cl_Book S.m_Book_rule_of (ok_Book_rule_of S) (hr.mono (by decide)) S.b_Book_rule_of .nil (fun _ => .nil) tk (dv 0) (acons (dprop S.cl_Sending S.p_Sending_show (ok_Sending_show S) (hr.mono (by decide)) S.b_Sending_show (dv 1)) (acons (dprop S.cl_Sending S.p_Sending_episode (ok_Sending_episode S) (hr.mono (by decide)) S.b_Sending_episode (dv 1)) anil))))))
  · rw [ctRuleFor_eq] at h; obtain ⟨_, _, rfl, _⟩ := h; rfl
  · intro ss st ok ex h
    rw [ctRuleFor_eq] at h
    obtain ⟨b, x, rfl, hb, hx, k⟩ := h
    walk_at "w"
    refine ⟨rfl, rfl, rfl, _, _, rfl, rfl, ?_⟩
    walk_at "w"
    refine ⟨rfl, _, _, rfl, rfl, ?_⟩
    walk_at "w"
    rw [ctRuleOf_eq]
    refine ⟨b, _, _, rfl, hb, hx.sh, ?_⟩
    walk_at "f"
    exact k
theorem ok_Listing_names (S : En K mg) : FnOk P w K mg base (L2.CX P w) 1 S.f_Listing_names S.d_Listing_names ["self"] (lowF K (ctNames ⟨S.C_Book, S.C_Rule, S.C_Listing, S.C_Sending⟩)) := by
  refine fn_low _ S.F_Listing_names sc_Listing_names (fun ss st ok ex h => ?_) ?_ (fun cdv A outer s H E hr tk po => (bone (sret (dct (call_tupleK rfl) lc_tupK S.n_tuple PyProof.Rows.boot_tuple (acons (dfld K (dv 0)) anil)))))
  · rw [ctNames_eq] at h; obtain ⟨_, rfl, _⟩ := h; rfl
  · intro ss st ok ex h
    rw [ctNames_eq] at h
    obtain ⟨l, rfl, k⟩ := h
    walk_at "w"
    refine ⟨S.cl_Listing, S.na_Listing_sendings, _, rfl, ?_⟩
    walk_at "f"
    rw [List.map_map, List.map_map]
    exact k
theorem ok_wished_names (S : En K mg) : FnOk P w K mg base (L2.CX P w) 5 S.f_wished_names S.d_wished_names ["book", "listing"] (lowF K (ctWNames ⟨S.C_Book, S.C_Rule, S.C_Listing, S.C_Sending⟩)) := by
  refine fn_low _ S.F_wished_names sc_wished_names (fun ss st ok ex h => ?_) ?_ (fun cdv A outer s H E hr tk po => (bone (sret (dlc [("name", 2)] sc_wished_names.nd (iT (dprop S.cl_Listing S.p_Listing_names (ok_Listing_names S) (hr.mono (by decide)) S.b_Listing_names (dv 1))) (blkOk_by (N := ["book", "listing", "name"]) (sc := defScope s_wished_names) (by decide +kernel)) (fun _ _ _ _ _ => (gwname 2 sc_wished_names.nd)) (fun _ _ _ _ _ => (tsone (tnotN (dcall (dds := []) (ok_rule_for S) (hr.mono (by decide)) S.g_rule_for S.F_rule_for.kp S.b_rule_for .nil (fun _ => .nil) takes0 (acons (dv 0) (acons (dget S.sg_Listing_getitem S.fi_Listing_getitem S.fn_Listing_getitem (ok_Listing_getitem S) (hr.mono (by decide)) S.b_Listing_getitem takes0 (dv 1) (dv 2)) anil)))))) (fun _ _ _ _ _ => (dv 2))))))
  · exact bl_len (m := 0) (fun _ => rfl) h
  · intro ss st ok ex h
    unfold ctWNames at h
    rw [ctBL_eq] at h
    obtain ⟨b, l, a, rfl, hb, hl, -, k⟩ := h
    walk_at "w"
    refine ⟨rfl, ?_⟩
    rw [ctNames_eq]
    refine ⟨l, rfl, ?_⟩
    walk_at "w"
    refine lc_pure l (fun x => .str x.1) (fun x => (ruleFor b x.2).map fun _ => .str x.1) (by rw [List.map_map]; rfl) ?_ ?_
    · intro i x D acc hx hD J
      have hm := List.mem_of_getElem? hx
      walk_at "w"
      refine ⟨rfl, ?_⟩
      rw [ctItem_eq]
      refine ⟨l, x.1, x.2, rfl, hl.get hm, ?_⟩
      walk_at "w"
      rw [ctRuleFor_eq]
      refine ⟨b, x.2, rfl, hb, (hl.ok _ hm).2, ?_⟩
      cases hr : ruleFor b x.2 with
      | none =>
        walk_at "ss"
        exact lc_no hx J (by rw [hr]; rfl)
      | some r =>
        walk_at "ss"
        exact lc_yes (Nat.le_trans hl.len (by decide)) hx J (by rw [hr]; rfl)
    · walk_at "f"
      rw [wnames_is]
      exact k
theorem ok_Rule_priority (S : En K mg) : FnOk P w K mg base (L2.CX P w) 1 S.f_Rule_priority S.d_Rule_priority ["self"] (lowF K (ctGet S.C_Rule "_priority")) := by
  refine fn_low _ S.F_Rule_priority sc_Rule_priority (fun ss st ok ex h => ?_) ?_ (fun cdv A outer s H E hr tk po => (bone (sret (dfld K (dv 0)))))
  · (repeat (first | (obtain ⟨rfl, _⟩ := h; rfl) | (obtain ⟨_, h⟩ := h)))
  · rintro ss st ok ex ⟨fs, d, rfl, hl, k⟩
    walk_at "w"
    refine ⟨S.cl_Rule, S.na_Rule_priority, d, hl, ?_⟩
    walk_at "f"
    exact k
theorem ok_Sending_begin (S : En K mg) : FnOk P w K mg base (L2.CX P w) 1 S.f_Sending_begin S.d_Sending_begin ["self"] (lowF K (ctGet S.C_Sending "_begin")) := by
  refine fn_low _ S.F_Sending_begin sc_Sending_begin (fun ss st ok ex h => ?_) ?_ (fun cdv A outer s H E hr tk po => (bone (sret (dfld K (dv 0)))))
  · (repeat (first | (obtain ⟨rfl, _⟩ := h; rfl) | (obtain ⟨_, h⟩ := h)))
  · rintro ss st ok ex ⟨fs, d, rfl, hl, k⟩
    walk_at "w"
    refine ⟨S.cl_Sending, S.na_Sending_begin, d, hl, ?_⟩
    walk_at "f"
    exact k
theorem ok_wishes (S : En K mg) : FnOk P w K mg base (L2.CX P w) 6 S.f_wishes S.d_wishes ["book", "listing"] (lowF K (ctWishes ⟨S.C_Book, S.C_Rule, S.C_Listing, S.C_Sending⟩)) := by
  refine fn_low _ S.F_wishes sc_wishes (fun ss st ok ex h => ?_) ?_ (fun cdv A outer s H E hr tk po => (bcons (sset 2 sc_wishes.nd (dlstO anil))
  (bcons (sfor po (iL (dcall (dds := []) (ok_wished_names S) (hr.mono (by decide)) S.g_wished_names S.F_wished_names.kp S.b_wished_names .nil (fun _ => .nil) tk (acons (dv 0) (acons (dv 1) anil)))) (gname 3 sc_wishes.nd)
   (bcons (sset 4 sc_wishes.nd (dget S.sg_Listing_getitem S.fi_Listing_getitem S.fn_Listing_getitem (ok_Listing_getitem S) (hr.mono (by decide)) S.b_Listing_getitem tk (dv 1) (dv 3)))
  (bone (sapp (dv 2) (dtup (acons (dneg (dprop S.cl_Rule S.p_Rule_priority (ok_Rule_priority S) (hr.mono (by decide)) S.b_Rule_priority (dcall (dds := []) (ok_rule_for S) (hr.mono (by decide)) S.g_rule_for S.F_rule_for.kp S.b_rule_for .nil (fun _ => .nil) tk (acons (dv 0) (acons (dv 4) anil))))) (acons (dprop S.cl_Sending S.p_Sending_begin (ok_Sending_begin S) (hr.mono (by decide)) S.b_Sending_begin (dv 4)) (acons (dcall (dds := []) (ok_episode_of S) (hr.mono (by decide)) S.g_episode_of S.F_episode_of.kp S.b_episode_of .nil (fun _ => .nil) tk (acons (dv 4) anil)) anil))))))))
  (bcons (sset 5 sc_wishes.nd (dlstO anil))
  (bcons (sfor po (iL (dcb (cr_sortP (hu65 hr)) lc_sortP S.n_sorted PyProof.Rows.boot_sorted (acons (dv 2) anil))) (gname 6 sc_wishes.nd)
   (bone (sif (tsNi hr (dix ix_tup lr_ixT (dv 6) di) (dv 5))
   (bone (sapp (dv 5) (dix ix_tup lr_ixT (dv 6) di))) bnil)))
  (bone (sret (dv 5))))))))
  · exact bl_len (m := 0) (fun _ => rfl) h
  · intro ss st ok ex h
    unfold ctWishes at h
    rw [ctBL_eq] at h
    obtain ⟨b, l, a, rfl, hb, hl, -, k⟩ := h
    walk_at "zz"
    intro p hp
    walk_at "w"
    refine bl_at () rfl hb hl trivial ?_
    walk_at "w"
    refine loop_fold (wished b l) (fun x => .str x.n) (fun s x => s ++ [x.row]) [] (fun rows Δ' st' => ∃ v3 v4, Δ' = [.dat (b.d ⟨S.C_Book, S.C_Rule, S.C_Listing, S.C_Sending⟩), .dat (lstD ⟨S.C_Book, S.C_Rule, S.C_Listing, S.C_Sending⟩ l), .own p, v3, v4, .un, .un] ∧ st' = (p, .lst (rows.map fun r => .dat (rowD r))) :: st) (by rw [List.map_map]; exact (List.map_map ..)) ⟨.un, .un, rfl, rfl⟩ ?_ ?_
    · rintro pre x post rows Δ' st' has hs ⟨v3, v4, rfl, rfl⟩
      have hm : x ∈ wished b l := by rw [has]; simp
      obtain ⟨hx1, hx2⟩ := wished_mem.mp hm
      walk_at "w"
      refine ⟨rfl, ?_⟩
      rw [ctItem_eq]
      refine ⟨l, x.n, x.s, rfl, hl.get hx1, ?_⟩
      walk_at "w"
      refine ⟨⟨0, _, rfl⟩, ?_⟩
      walk_at "w"
      rw [ctRuleFor_eq]
      refine ⟨b, x.s, rfl, hb, (hl.ok _ hx1).2, ?_⟩
      rw [hx2]
      walk_at "w"
      refine ⟨rfl, _, _, rfl, rfl, ?_⟩
      walk_at "w"
      refine ⟨rfl, _, _, rfl, rfl, ?_⟩
      walk_at "w"
      refine ⟨x.s, rfl, ?_⟩
      walk_at "zz"
      have hr : rows.length ≤ 10 := by
        have := wished_len (b := b) hl
        rw [has, List.length_append, List.length_cons] at this
        rw [hs, fold_snoc, List.nil_append, List.length_map]
        omega
      refine ⟨0, _, rfl, by rw [List.length_map]; exact Nat.lt_of_le_of_lt hr (by rw [sizeLine_eq]; decide), ?_⟩
      walk_at "w"
      refine ⟨_, _, rfl, ?_⟩
      rw [List.map_append]
      rfl
    · rintro Δ' st' ⟨v3, v4, rfl, rfl⟩
      rw [fold_snoc]
      walk_at "zz"
      intro q hq
      walk_at "w"
      refine ⟨1, _, rfl, SP.Row, (wished b l).map Wi.row, rowD, rowP, by rw [List.nil_append], row_of, row_alike _, row_sortable _, fun r _ => row_depth r, ?_⟩
      walk_at "w"
      refine loop_fold (sortedRows b l) rowD (fun acc r => if r.2.2 ∈ acc then acc else acc ++ [r.2.2]) [] (fun acc Δ' st' => ∃ v3 v4 v6, Δ' = [.dat (b.d ⟨S.C_Book, S.C_Rule, S.C_Listing, S.C_Sending⟩), .dat (lstD ⟨S.C_Book, S.C_Rule, S.C_Listing, S.C_Sending⟩ l), .own p, v3, v4, .own q, v6] ∧ st' = (q, .lst (acc.map fun r => .dat (epD r))) :: (p, .lst (((wished b l).map Wi.row).map fun r => .dat (rowD r))) :: st ∧ (∀ e ∈ acc, isWord e.1 = true)) (by rw [List.map_map]; rfl) ⟨_, _, _, rfl, rfl, fun e h => (by cases h)⟩ ?_ ?_
      · rintro pre r post acc Δ' st' has hs ⟨v3, v4, v6, rfl, rfl, hw⟩
        have hm : r ∈ sortedRows b l := by rw [has]; simp
        have hr := row_word hl hm
        walk_at "w"
        refine ⟨.dat (epD r.2.2), rfl, ?_⟩
        walk_at "w"
        refine ⟨0, _, acc.map epD, epP r.2.2, acc.map epP, rfl, allD_of _ _, ep_of _, eps_of _, ep_shaped _ hr, eps_lay _ hw, ?_⟩
        rw [ep_any]
        refine ⟨fun h => ?_, fun h => ?_⟩
        · have h' : ¬ r.2.2 ∈ acc := by simpa using h
          walk_at "w"
          refine ⟨⟨0, _, rfl⟩, ?_⟩
          walk_at "w"
          refine ⟨.dat (epD r.2.2), rfl, ?_⟩
          walk_at "w"
          have hn : acc.length ≤ 10 := by
            have h1 := dedup_len pre []
            rw [← hs] at h1
            have h2 := rows_len (b := b) hl
            rw [has, List.length_append] at h2
            simp at h1
            omega
          refine ⟨0, _, rfl, by rw [List.length_map]; exact Nat.lt_of_le_of_lt hn (by rw [sizeLine_eq]; decide), ?_⟩
          walk_at "w"
          rw [if_neg h']
          refine ⟨_, _, _, rfl, by rw [List.map_append]; rfl, fun e he => ?_⟩
          rcases List.mem_append.mp he with he | he
          · exact hw e he
          · rw [List.mem_singleton.mp he]; exact hr
        · have h' : r.2.2 ∈ acc := by simpa using h
          walk_at "w"
          rw [if_pos h']
          exact ⟨_, _, _, rfl, rfl, hw⟩
      · rintro Δ' st' ⟨v3, v4, v6, rfl, rfl, hw⟩
        rw [wishes_fold]
        walk_at "w"
        refine ⟨.dat (.lst ((wishes b l).map epD)), st, .pub (j := 0) rfl (by rw [show (fun r : Ep => Sv.dat (epD r)) = Sv.dat ∘ epD from rfl, ← List.map_map]; exact .lst (.map _)) ?_ (.cons _ (.cons _ (List.Sublist.refl _))), k⟩
        intro z
        exact hq (List.mem_cons_of_mem _ z)
theorem ok_sendings_of (S : En K mg) : FnOk P w K mg base (L2.CX P w) 6 S.f_sendings_of S.d_sendings_of ["book", "listing", "episode"] (lowF K (ctSends ⟨S.C_Book, S.C_Rule, S.C_Listing, S.C_Sending⟩)) := by
  refine fn_low _ S.F_sendings_of sc_sendings_of (fun ss st ok ex h => ?_) ?_ (fun cdv A outer s H E hr tk po => (bcons (sset 3 sc_sendings_of.nd (dlstO anil))
  (bcons (sfor po (iL (dcall (dds := []) (ok_wished_names S) (hr.mono (by decide)) S.g_wished_names S.F_wished_names.kp S.b_wished_names .nil (fun _ => .nil) tk (acons (dv 0) (acons (dv 1) anil)))) (gname 4 sc_sendings_of.nd)
   (bone (sif (tcmp (op_eqD (hu64 hr)) lr_eqP (dcall (dds := []) (ok_episode_of S) (hr.mono (by decide)) S.g_episode_of S.F_episode_of.kp S.b_episode_of .nil (fun _ => .nil) tk (acons (dget S.sg_Listing_getitem S.fi_Listing_getitem S.fn_Listing_getitem (ok_Listing_getitem S) (hr.mono (by decide)) S.b_Listing_getitem tk (dv 1) (dv 4)) anil)) (dv 2) (nomark _))
   (bone (sapp (dv 3) (dtup (acons (dprop S.cl_Sending S.p_Sending_begin (ok_Sending_begin S) (hr.mono (by decide)) S.b_Sending_begin (dget S.sg_Listing_getitem S.fi_Listing_getitem S.fn_Listing_getitem (ok_Listing_getitem S) (hr.mono (by decide)) S.b_Listing_getitem tk (dv 1) (dv 4))) (acons (dv 4) anil))))) bnil)))
  (bcons (sif (tnot (ttruL (dv 3)))
   (bone (sraise0 PySem.F.excBase_ValueError S.x_UnknownEpisode S.g_UnknownEpisode S.kc_UnknownEpisode (raises_own S.r_UnknownEpisode S.ty_UnknownEpisode) tk)) bnil)
  (bone (sret (dlc [("row", 5)] sc_sendings_of.nd (iL (dcb (cr_sortP (hu65 hr)) lc_sortP S.n_sorted PyProof.Rows.boot_sorted (acons (dv 3) anil))) (blkOk_by (N := ["book", "listing", "episode", "rows", "name", "row"]) (sc := defScope s_sendings_of) (by decide +kernel)) (fun _ _ _ _ _ => (gwname 5 sc_sendings_of.nd)) (fun _ _ _ _ _ => tsnil) (fun _ _ _ _ _ => (dix ix_tup lr_ixT (dv 5) di)))))))))
  · exact bl_len (m := 1) (fun _ => rfl) h
  · intro ss st ok ex h
    unfold ctSends at h
    rw [ctBL_eq] at h
    obtain ⟨b, l, e, rfl, hb, hl, ⟨x0, hx0, he0⟩, k⟩ := h
    have hew : isWord e.1 = true := by rw [← he0]; exact (hl.ok _ (wished_mem.mp hx0).1).2.sh
    walk_at "zz"
    intro p hp
    walk_at "w"
    refine bl_at () rfl hb hl trivial ?_
    walk_at "w"
    refine loop_fold (wished b l) (fun x => .str x.n) (fun s x => if decide (x.s.ep = e) = true then s ++ [x.bn] else s) [] (fun rows Δ' st' => ∃ v4 v5, Δ' = [.dat (b.d ⟨S.C_Book, S.C_Rule, S.C_Listing, S.C_Sending⟩), .dat (lstD ⟨S.C_Book, S.C_Rule, S.C_Listing, S.C_Sending⟩ l), .dat (epD e), .own p, v4, v5] ∧ st' = (p, .lst (rows.map fun r => .dat (bnD r))) :: st) (by rw [List.map_map]; exact (List.map_map ..)) ⟨.un, .un, rfl, rfl⟩ ?_ ?_
    · rintro pre x post rows Δ' st' has hs ⟨v3, v4, rfl, rfl⟩
      have hm : x ∈ wished b l := by rw [has]; simp
      obtain ⟨hx1, hx2⟩ := wished_mem.mp hm
      walk_at "w"
      refine ⟨rfl, ?_⟩
      rw [ctItem_eq]
      refine ⟨l, x.n, x.s, rfl, hl.get hx1, ?_⟩
      walk_at "w"
      refine ⟨x.s, rfl, ?_⟩
      walk_at "w"
      refine ⟨_, _, ep_of _, ep_of _, ep_shaped _ (hl.ok _ hx1).2.sh, ep_shaped _ hew, ?_⟩
      rw [ep_eqv]
      refine ⟨fun h => ?_, fun h => ?_⟩
      · walk_at "w"
        refine ⟨⟨0, _, rfl⟩, ?_⟩
        walk_at "w"
        refine ⟨rfl, ?_⟩
        rw [ctItem_eq]
        refine ⟨l, x.n, x.s, rfl, hl.get hx1, ?_⟩
        walk_at "w"
        refine ⟨rfl, _, _, rfl, rfl, ?_⟩
        walk_at "zz"
        have hr : rows.length ≤ 10 := by
          rw [hs, fold_filter, List.nil_append, List.length_map]
          have h1 := List.length_filter_le (fun x : Wi => decide (x.s.ep = e)) pre
          have h2 := wished_len (b := b) hl
          rw [has, List.length_append] at h2
          omega
        refine ⟨0, _, rfl, by rw [List.length_map]; exact Nat.lt_of_le_of_lt hr (by rw [sizeLine_eq]; decide), ?_⟩
        walk_at "w"
        rw [if_pos (show decide (x.s.ep = e) = true from h)]
        exact ⟨_, _, rfl, by rw [List.map_append]; rfl⟩
      · walk_at "w"
        rw [if_neg (show ¬ decide (x.s.ep = e) = true by rw [show decide (x.s.ep = e) = false from h]; decide)]
        exact ⟨_, _, rfl, rfl⟩
    · rintro Δ' st' ⟨v4, v5, rfl, rfl⟩
      rw [fold_filter, List.nil_append]
      have hne : (bnRaw b l e).isEmpty = false := by
        cases h : bnRaw b l e with
        | nil => exact absurd h (bn_pos hx0 he0)
        | cons => rfl
      walk_at "w"
      refine ⟨0, _, rfl, ?_⟩
      have he : (((((wished b l).filter fun x => decide (x.s.ep = e)).map Wi.bn)).map fun r => Sv.dat (bnD r)).isEmpty = false := by
        rw [List.isEmpty_map]
        exact hne
      walk_at "w"
      refine ⟨fun h => absurd h (by rw [he]; decide), fun _ => ?_⟩
      walk_at "w"
      refine ⟨0, _, rfl, SP.Bn, bnRaw b l e, bnD, bnP, rfl, bn_of, bn_alike _, bn_sortable _, fun r _ => bn_depth r, ?_⟩
      walk_at "w"
      refine lc_pure (bnOf b l e) bnD (fun r => some (.str r.2)) (by rw [List.map_map]; rfl) ?_ ?_
      · intro i r D acc hx hD J
        walk_at "ss"
        refine ⟨.dat (.str r.2), rfl, ?_⟩
        exact lc_yes (by rw [(bn_perm b l e).length_eq]; exact Nat.le_trans (bn_len hl e) (by decide)) hx J rfl
      · walk_at "w"
        refine ⟨_, st, .keep (.cons _ (List.Sublist.refl _)), ?_⟩
        rw [fm_some]
        unfold namesD sendsOf at k
        rw [List.map_map] at k
        exact k
theorem ok_Rule_before (S : En K mg) : FnOk P w K mg base (L2.CX P w) 1 S.f_Rule_before S.d_Rule_before ["self"] (lowF K (ctGet S.C_Rule "_before")) := by
  refine fn_low _ S.F_Rule_before sc_Rule_before (fun ss st ok ex h => ?_) ?_ (fun cdv A outer s H E hr tk po => (bone (sret (dfld K (dv 0)))))
  · (repeat (first | (obtain ⟨rfl, _⟩ := h; rfl) | (obtain ⟨_, h⟩ := h)))
  · rintro ss st ok ex ⟨fs, d, rfl, hl, k⟩
    walk_at "w"
    refine ⟨S.cl_Rule, S.na_Rule_before, d, hl, ?_⟩
    walk_at "f"
    exact k
theorem ok_Rule_after (S : En K mg) : FnOk P w K mg base (L2.CX P w) 1 S.f_Rule_after S.d_Rule_after ["self"] (lowF K (ctGet S.C_Rule "_after")) := by
  refine fn_low _ S.F_Rule_after sc_Rule_after (fun ss st ok ex h => ?_) ?_ (fun cdv A outer s H E hr tk po => (bone (sret (dfld K (dv 0)))))
  · (repeat (first | (obtain ⟨rfl, _⟩ := h; rfl) | (obtain ⟨_, h⟩ := h)))
  · rintro ss st ok ex ⟨fs, d, rfl, hl, k⟩
    walk_at "w"
    refine ⟨S.cl_Rule, S.na_Rule_after, d, hl, ?_⟩
    walk_at "f"
    exact k
theorem ok_Sending_end (S : En K mg) : FnOk P w K mg base (L2.CX P w) 1 S.f_Sending_end S.d_Sending_end ["self"] (lowF K (ctGet S.C_Sending "_end")) := by
  refine fn_low _ S.F_Sending_end sc_Sending_end (fun ss st ok ex h => ?_) ?_ (fun cdv A outer s H E hr tk po => (bone (sret (dfld K (dv 0)))))
  · (repeat (first | (obtain ⟨rfl, _⟩ := h; rfl) | (obtain ⟨_, h⟩ := h)))
  · rintro ss st ok ex ⟨fs, d, rfl, hl, k⟩
    walk_at "w"
    refine ⟨S.cl_Sending, S.na_Sending_end, d, hl, ?_⟩
    walk_at "f"
    exact k
theorem ok_window (S : En K mg) : FnOk P w K mg base (L2.CX P w) 5 S.f_window S.d_window ["book", "listing", "name"] (lowF K (ctWindow ⟨S.C_Book, S.C_Rule, S.C_Listing, S.C_Sending⟩)) := by
  refine fn_low _ S.F_window sc_window (fun ss st ok ex h => ?_) ?_ (fun cdv A outer s H E hr tk po => (bcons (sset 3 sc_window.nd (dget S.sg_Listing_getitem S.fi_Listing_getitem S.fn_Listing_getitem (ok_Listing_getitem S) (hr.mono (by decide)) S.b_Listing_getitem tk (dv 1) (dv 2)))
  (bcons (sset 4 sc_window.nd (dcall (dds := []) (ok_rule_for S) (hr.mono (by decide)) S.g_rule_for S.F_rule_for.kp S.b_rule_for .nil (fun _ => .nil) tk (acons (dv 0) (acons (dv 3) anil))))
  (bcons (sif (tisN (dv 4))
   (bone (sraise0 PySem.F.excBase_ValueError S.x_NotWished S.g_NotWished S.kc_NotWished (raises_own S.r_NotWished S.ty_NotWished) tk)) bnil)
  (bone (sret (dtup (acons (dcb (call_max2 rfl) lc_max2 S.n_max PyProof.Rows.boot_max (acons di (acons (dop op_sub lr_sub (dprop S.cl_Sending S.p_Sending_begin (ok_Sending_begin S) (hr.mono (by decide)) S.b_Sending_begin (dv 3)) (dprop S.cl_Rule S.p_Rule_before (ok_Rule_before S) (hr.mono (by decide)) S.b_Rule_before (dv 4))) anil))) (acons (dop op_add lr_add (dprop S.cl_Sending S.p_Sending_end (ok_Sending_end S) (hr.mono (by decide)) S.b_Sending_end (dv 3)) (dprop S.cl_Rule S.p_Rule_after (ok_Rule_after S) (hr.mono (by decide)) S.b_Rule_after (dv 4))) anil)))))))))
  · exact bl_len (m := 1) (fun _ => rfl) h
  · intro ss st ok ex h
    unfold ctWindow at h
    rw [ctBL_eq] at h
    obtain ⟨b, l, x, rfl, hb, hl, hx, k⟩ := h
    obtain ⟨hx1, hx2⟩ := wished_mem.mp hx
    walk_at "w"
    refine ⟨rfl, ?_⟩
    rw [ctItem_eq]
    refine ⟨l, x.n, x.s, rfl, hl.get hx1, ?_⟩
    walk_at "w"
    rw [ctRuleFor_eq]
    refine ⟨b, x.s, rfl, hb, (hl.ok _ hx1).2, ?_⟩
    rw [hx2]
    walk_at "dd"
    walk_at "w"
    refine ⟨rfl, _, _, rfl, rfl, ?_⟩
    walk_at "w"
    refine ⟨rfl, _, _, rfl, rfl, ?_⟩
    walk_at "w"
    refine ⟨rfl, _, _, rfl, rfl, ?_⟩
    walk_at "w"
    refine ⟨rfl, _, _, rfl, rfl, ?_⟩
    walk_at "zz"
    walk_at "f"
    exact k
theorem ok_wished_windows (S : En K mg) : FnOk P w K mg base (L2.CX P w) 6 S.f_wished_windows S.d_wished_windows ["book", "listing"] (lowF K (ctWindows ⟨S.C_Book, S.C_Rule, S.C_Listing, S.C_Sending⟩)) := by
  refine fn_low _ S.F_wished_windows sc_wished_windows (fun ss st ok ex h => ?_) ?_ (fun cdv A outer s H E hr tk po => (bone (sret (ddc [("name", 2)] sc_wished_windows.nd (iL (dcall (dds := []) (ok_wished_names S) (hr.mono (by decide)) S.g_wished_names S.F_wished_names.kp S.b_wished_names .nil (fun _ => .nil) tk (acons (dv 0) (acons (dv 1) anil)))) (blkOk_by (N := ["book", "listing", "name"]) (sc := defScope s_wished_windows) (by decide +kernel)) (fun _ _ _ _ _ => (gwname 2 sc_wished_windows.nd)) (fun _ _ _ _ _ => tsnil) (fun _ _ _ _ _ => (dv 2)) (fun _ _ _ _ _ => (dcall (dds := []) (ok_window S) (hr.mono (by decide)) S.g_window S.F_window.kp S.b_window .nil (fun _ => .nil) takes0 (acons (dv 0) (acons (dv 1) (acons (dv 2) anil)))))))))
  · exact bl_len (m := 0) (fun _ => rfl) h
  · intro ss st ok ex h
    unfold ctWindows at h
    rw [ctBL_eq] at h
    obtain ⟨b, l, a, rfl, hb, hl, -, k⟩ := h
    walk_at "w"
    refine bl_at () rfl hb hl trivial ?_
    walk_at "w"
    refine dc_pure (wished b l) (fun x => .str x.n) (fun x => some (.inr x.n, winD x.win)) (by rw [List.map_map]; exact (List.map_map ..)) ?_ ?_
    · intro i x D acc hx hD J
      have hm := List.mem_of_getElem? hx
      walk_at "ss"
      refine bl_at x rfl hb hl hm ?_
      exact dc_yes (Nat.le_trans (wished_len hl) (by decide)) (windows_nd hl) hx J rfl rfl
    · walk_at "f"
      rw [windows_is]
      exact k
theorem ok_windows_overlap (S : En K mg) : FnOk P w K mg base (L2.CX P w) 1 S.f_windows_overlap S.d_windows_overlap ["one", "other"] (lowF K ctOver) := by
  refine fn_low _ S.F_windows_overlap sc_windows_overlap (fun ss st ok ex h => ?_) ?_ (fun cdv A outer s H E hr tk po => (bone (sret (dand (dcmp op_lt lr_lt (dix ix_tup lr_ixT (dv 0) di) (dix ix_tup lr_ixT (dv 1) di) (nomark _)) (done (dcmp op_lt lr_lt (dix ix_tup lr_ixT (dv 1) di) (dix ix_tup lr_ixT (dv 0) di) (nomark _)))))))
  · (repeat (first | (obtain ⟨rfl, _⟩ := h; rfl) | (obtain ⟨_, h⟩ := h)))
  · rintro ss st ok ex ⟨a, b, rfl, k⟩
    walk_at "zz"
    refine ⟨_, rfl, ?_⟩
    walk_at "zz"
    refine ⟨_, rfl, ?_⟩
    walk_at "w"
    unfold overlap at k
    refine ⟨fun h => ?_, fun h => ?_⟩
    · walk_at "zz"
      refine ⟨_, rfl, ?_⟩
      walk_at "zz"
      refine ⟨_, rfl, ?_⟩
      walk_at "f"
      rw [show decide (a.1 < b.2) = true from h, Bool.true_and] at k
      exact k
    · walk_at "f"
      rw [show decide (a.1 < b.2) = false from h, Bool.false_and] at k
      exact k
theorem ok_ascending (S : En K mg) : FnOk P w K mg base (L2.CX P w) 1 S.f_ascending S.d_ascending ["plan"] (lowF K ctAsc) := by
  refine fn_low _ S.F_ascending sc_ascending (fun ss st ok ex h => ?_) ?_ (fun cdv A outer s H E hr tk po => (bone (sret (ddc [("name", 1)] sc_ascending.nd (iL (dcb (call_sortedD rfl) lc_sortK S.n_sorted PyProof.Rows.boot_sorted (acons (dv 0) anil))) (blkOk_by (N := ["plan", "name"]) (sc := defScope s_ascending) (by decide +kernel)) (fun _ _ _ _ _ => (gwname 1 sc_ascending.nd)) (fun _ _ _ _ _ => tsnil) (fun _ _ _ _ _ => (dv 1)) (fun _ _ _ _ _ => (ddget (hu1 hr) (dv 0) (dv 1)))))))
  · rw [ctAsc_eq] at h; obtain ⟨_, rfl, _⟩ := h; rfl
  · intro ss st ok ex h
    rw [ctAsc_eq] at h
    obtain ⟨p, rfl, hp, k⟩ := h
    walk_at "w"
    refine ⟨p.map (·.1), by rw [List.map_map, List.map_map, List.map_map]; rfl, by rw [List.length_map]; exact Nat.lt_of_le_of_lt hp.len (by decide), fun ys hy hs => ?_⟩
    obtain rfl := sorted_is hy hs
    walk_at "w"
    refine dc_pure (sortN (p.map (·.1))) (fun n => .str n) (fun n => some (.inr n, .int ((look p n).getD 0))) (by rw [List.map_map]; rfl) ?_ ?_
    · intro i n D acc hx hD J
      have hm := (sortN_perm _).mem_iff.mp (List.mem_of_getElem? hx)
      obtain ⟨v, hv⟩ := look_is hm
      walk_at "ss"
      refine ⟨.inr n, .dat (.int v), rfl, ?_, ?_⟩
      · have e := getD_dic Dt.int p n
        rw [hv] at e
        exact e
      · exact dc_yes (by rw [(sortN_perm _).length_eq, List.length_map]; exact Nat.le_trans hp.len (by decide)) (asc_nd hp.nd) hx J (by rw [hv]; rfl) rfl
    · walk_at "f"
      rw [asc_is]
      exact k
theorem ok_on_receiver (S : En K mg) : FnOk P w K mg base (L2.CX P w) 2 S.f_on_receiver S.d_on_receiver ["windows", "plan", "receiver", "span"] (lowF K ctOnRec) := by
  refine fn_low _ S.F_on_receiver sc_on_receiver (fun ss st ok ex h => ?_) ?_ (fun cdv A outer s H E hr tk po => (bcons (ssetLc 4 [("other", 5)] sc_on_receiver.nd (iL (dcb (call_sortedD rfl) lc_sortK S.n_sorted PyProof.Rows.boot_sorted (acons (dv 1) anil))) (blkOk_by (N := ["windows", "plan", "receiver", "span", "recordings", "other"]) (sc := defScope s_on_receiver) (by decide +kernel)) (fun _ _ _ _ _ => (gwname 5 sc_on_receiver.nd)) (fun _ _ _ _ _ => (tsone (tcmp op_eq lr_eqS (ddget (hu1 hr) (dv 1) (dv 5)) (dv 2) (nomark _)))) (fun _ _ _ _ _ => (dv 5)))
  (bone (sret (dlc [("other", 5)] sc_on_receiver.nd (iL (dv 4)) (blkOk_by (N := ["windows", "plan", "receiver", "span", "recordings", "other"]) (sc := defScope s_on_receiver) (by decide +kernel)) (fun _ _ _ _ _ => (gwname 5 sc_on_receiver.nd)) (fun _ _ _ _ _ => (tsone (tval (dcall (dds := []) (ok_windows_overlap S) (hr.mono (by decide)) S.g_windows_overlap S.F_windows_overlap.kp S.b_windows_overlap .nil (fun _ => .nil) takes0 (acons (ddget (hu1 hr) (dv 0) (dv 5)) (acons (dv 3) anil)))))) (fun _ _ _ _ _ => (dv 5)))))))
  · rw [ctOnRec_eq] at h; obtain ⟨_, _, _, _, ⟨_, rfl, _⟩, _⟩ := h; rfl
  · intro ss st ok ex h
    rw [ctOnRec_eq] at h
    obtain ⟨ws, p, r, w, ⟨dp, rfl, hd⟩, hp, hw, k⟩ := h
    have hl10 : (sortN (p.map (·.1))).length ≤ 10 := by rw [(sortN_perm _).length_eq, List.length_map]; exact hp.len
    rcases hd with rfl | ⟨q, j, rfl, hj⟩
    · walk_at "w"
      refine ⟨p.map (·.1), by rw [List.map_map, List.map_map, List.map_map]; rfl, by rw [List.length_map]; exact Nat.lt_of_le_of_lt hp.len (by decide), fun ys hy hs => ?_⟩
      obtain rfl := sorted_is hy hs
      walk_at "w"
      refine lc_pure (sortN (p.map (·.1))) (fun n => .str n) (fun o => if decide (look p o = some r) = true then some (.str o) else none) (by rw [List.map_map]; rfl) ?_ ?_
      · intro i o D acc hx hD J
        have hm := (sortN_perm _).mem_iff.mp (List.mem_of_getElem? hx)
        obtain ⟨v, hv⟩ := look_is hm
        walk_at "w"
        refine ⟨.inr o, .dat (.int v), rfl, by rw [getD_dic Dt.int p o, hv]; rfl, ?_⟩
        walk_at "w"
        refine ⟨fun h => ?_, fun h => ?_⟩
        · have h' : look p o = some r := by rw [hv]; exact congrArg some (of_decide_eq_true h)
          walk_at "w"
          exact lc_yes (Nat.le_trans hl10 (by decide)) hx J (by rw [if_pos (decide_eq_true h')])
        · have h' : ¬ look p o = some r := by rw [hv]; exact fun z => of_decide_eq_false h (Option.some.inj z)
          walk_at "w"
          exact lc_no hx J (by rw [decide_eq_false h']; rfl)
      · rw [fm_if]
        walk_at "w"
        refine lc_pure ((sortN (p.map (·.1))).filter fun o => decide (look p o = some r)) (fun n => .str n) (fun o => if overlap (winOf ws o) w = true then some (.str o) else none) (by rw [List.map_map]; rfl) ?_ ?_
        · intro i o D acc hx hD J
          have hm := (sortN_perm _).mem_iff.mp (List.mem_filter.mp (List.mem_of_getElem? hx)).1
          obtain ⟨x, hxp, hxo⟩ := List.mem_map.mp hm
          obtain ⟨v, hv⟩ := Option.isSome_iff_exists.mp (hw x hxp)
          rw [hxo] at hv
          have hvo : winOf ws o = v := by unfold winOf; rw [hv]; rfl
          walk_at "w"
          refine ⟨.inr o, .dat (winD v), rfl, by rw [getD_dic winD ws o, hv]; rfl, ?_⟩
          walk_at "w"
          refine ⟨v, w, rfl, ?_⟩
          walk_at "w"
          refine ⟨fun h => ?_, fun h => ?_⟩
          · walk_at "w"
            exact lc_yes (Nat.le_trans (Nat.le_trans (List.length_filter_le _ _) hl10) (by decide)) hx J (by rw [hvo, if_pos h])
          · walk_at "w"
            exact lc_no hx J (by rw [hvo, h]; rfl)
        · rw [fm_if]
          walk_at "f"
          exact k
    · walk_at "w"
      refine ⟨j, _, hj, ?_⟩
      refine ⟨p.map (·.1), by rw [List.map_map, List.map_map]; rfl, by rw [List.length_map]; exact Nat.lt_of_le_of_lt hp.len (by decide), fun ys hy hs => ?_⟩
      obtain rfl := sorted_is hy hs
      walk_at "w"
      refine lc_pure (sortN (p.map (·.1))) (fun n => .str n) (fun o => if decide (look p o = some r) = true then some (.str o) else none) (by rw [List.map_map]; rfl) ?_ ?_
      · intro i o D acc hx hD J
        have hm := (sortN_perm _).mem_iff.mp (List.mem_of_getElem? hx)
        obtain ⟨v, hv⟩ := look_is hm
        walk_at "w"
        refine ⟨j + 1, _, hj, .inr o, .dat (.int v), rfl, by rw [getD_own dI p o, hv]; rfl, ?_⟩
        walk_at "w"
        refine ⟨fun h => ?_, fun h => ?_⟩
        · have h' : look p o = some r := by rw [hv]; exact congrArg some (of_decide_eq_true h)
          walk_at "w"
          exact lc_yes (Nat.le_trans hl10 (by decide)) hx J (by rw [if_pos (decide_eq_true h')])
        · have h' : ¬ look p o = some r := by rw [hv]; exact fun z => of_decide_eq_false h (Option.some.inj z)
          walk_at "w"
          exact lc_no hx J (by rw [decide_eq_false h']; rfl)
      · rw [fm_if]
        walk_at "w"
        refine lc_pure ((sortN (p.map (·.1))).filter fun o => decide (look p o = some r)) (fun n => .str n) (fun o => if overlap (winOf ws o) w = true then some (.str o) else none) (by rw [List.map_map]; rfl) ?_ ?_
        · intro i o D acc hx hD J
          have hm := (sortN_perm _).mem_iff.mp (List.mem_filter.mp (List.mem_of_getElem? hx)).1
          obtain ⟨x, hxp, hxo⟩ := List.mem_map.mp hm
          obtain ⟨v, hv⟩ := Option.isSome_iff_exists.mp (hw x hxp)
          rw [hxo] at hv
          have hvo : winOf ws o = v := by unfold winOf; rw [hv]; rfl
          walk_at "w"
          refine ⟨.inr o, .dat (winD v), rfl, by rw [getD_dic winD ws o, hv]; rfl, ?_⟩
          walk_at "w"
          refine ⟨v, w, rfl, ?_⟩
          walk_at "w"
          refine ⟨fun h => ?_, fun h => ?_⟩
          · walk_at "w"
            exact lc_yes (Nat.le_trans (Nat.le_trans (List.length_filter_le _ _) hl10) (by decide)) hx J (by rw [hvo, if_pos h])
          · walk_at "w"
            exact lc_no hx J (by rw [hvo, h]; rfl)
        · rw [fm_if]
          walk_at "f"
          exact k
theorem ok_least_free (S : En K mg) : FnOk P w K mg base (L2.CX P w) 3 S.f_least_free S.d_least_free ["windows", "plan", "span"] (lowF K ctLeast) := by
  refine fn_low _ S.F_least_free sc_least_free (fun ss st ok ex h => ?_) ?_ (fun cdv A outer s H E hr tk po => (bcons (sset 3 sc_least_free.nd di)
  (bcons (swhile po (ttruL (dcall (dds := []) (ok_on_receiver S) (hr.mono (by decide)) S.g_on_receiver S.F_on_receiver.kp S.b_on_receiver .nil (fun _ => .nil) tk (acons (dv 0) (acons (dv 1) (acons (dv 3) (acons (dv 2) anil))))))
   (bone (sset 3 sc_least_free.nd (dop op_add lr_add (dv 3) di))))
  (bone (sret (dv 3))))))
  · rw [ctLeast_eq] at h; obtain ⟨_, _, _, _, ⟨_, rfl, _⟩, _⟩ := h; rfl
  · intro ss st ok ex h
    rw [ctLeast_eq] at h
    obtain ⟨ws, p, w, k0, ⟨dp, rfl, hd⟩, hp, hw, hr, k⟩ := h
    have hdp : dp ≠ .un := by rcases hd with rfl | ⟨q, j, rfl, hj⟩ <;> exact fun z => by cases z
    walk_at "w"
    rw [whileD_eq]
    refine ⟨fun m Δ' st' => ∃ r : Nat, m + r = k0 ∧ (∀ r' : Nat, r' < r → onRecW ws p (r' : Int) w ≠ []) ∧ Δ' = [.dat (dicD winD ws), dp, .dat (winD w), dI (r : Int)] ∧ st' = st, ⟨k0, 0, rfl, fun r' h => absurd h (Nat.not_lt_zero _), rfl, rfl⟩, ?_⟩
    rintro m Δ' st' ⟨r, hm, hb, rfl, rfl⟩
    have hcall : ∀ okk exx, okk (.dat (namesD (onRecW ws p (r : Int) w))) st' → ctOnRec [.dat (dicD winD ws), dp, dI (r : Int), .dat (winD w)] st' okk exx := fun okk exx hk => by
      rw [ctOnRec_eq]
      exact ⟨ws, p, r, w, ⟨dp, rfl, hd⟩, hp, hw, hk⟩
    have hend : onRecW ws p (r : Int) w = [] → ∃ s' st'', Fin (dI (r : Int)) st' s' st'' ∧ ok s' st'' := fun h => ⟨_, _, .keep (List.Sublist.refl _), k r (by omega) hb h⟩
    have hgo : onRecW ws p (r : Int) w ≠ [] → r < k0 := fun h => by
      rcases Nat.lt_or_ge r k0 with h1 | h1
      · exact h1
      · exact absurd (on_out fun x hx => by have := hr x hx; omega) h
    rcases hd with rfl | ⟨q, j, rfl, hj⟩
    · walk_at "w"
      refine hcall _ _ ?_
      walk_at "w"
      refine ⟨fun h => ?_, fun h => ?_⟩
      · have hne : onRecW ws p (r : Int) w ≠ [] := fun z => by rw [z] at h; cases h
        have hlt := hgo hne
        walk_at "w"
        refine ⟨m - 1, by omega, r + 1, by omega, fun r' hr' => ?_, rfl, rfl⟩
        rcases Nat.lt_or_ge r' r with h1 | h1
        · exact hb r' h1
        · rw [show r' = r by omega]; exact hne
      · have he : onRecW ws p (r : Int) w = [] := by
          cases z : onRecW ws p (r : Int) w with
          | nil => rfl
          | cons a as => rw [z] at h; cases h
        walk_at "w"
        exact hend he
    · walk_at "w"
      refine hcall _ _ ?_
      walk_at "w"
      refine ⟨fun h => ?_, fun h => ?_⟩
      · have hne : onRecW ws p (r : Int) w ≠ [] := fun z => by rw [z] at h; cases h
        have hlt := hgo hne
        walk_at "w"
        refine ⟨m - 1, by omega, r + 1, by omega, fun r' hr' => ?_, rfl, rfl⟩
        rcases Nat.lt_or_ge r' r with h1 | h1
        · exact hb r' h1
        · rw [show r' = r by omega]; exact hne
      · have he : onRecW ws p (r : Int) w = [] := by
          cases z : onRecW ws p (r : Int) w with
          | nil => rfl
          | cons a as => rw [z] at h; cases h
        walk_at "w"
        exact hend he
theorem ok_taken_up (S : En K mg) : FnOk P w K mg base (L2.CX P w) 7 S.f_taken_up S.d_taken_up ["book", "listing", "receivers"] (lowF K (ctTaken ⟨S.C_Book, S.C_Rule, S.C_Listing, S.C_Sending⟩)) := by
  refine fn_low _ S.F_taken_up sc_taken_up (fun ss st ok ex h => ?_) ?_ (fun cdv A outer s H E hr tk po => (bcons (sset 3 sc_taken_up.nd (dcall (dds := []) (ok_wished_windows S) (hr.mono (by decide)) S.g_wished_windows S.F_wished_windows.kp S.b_wished_windows .nil (fun _ => .nil) tk (acons (dv 0) (acons (dv 1) anil))))
  (bcons (sset 4 sc_taken_up.nd ddnew)
  (bcons (sfor po (iL (dcall (dds := []) (ok_wishes S) (hr.mono (by decide)) S.g_wishes S.F_wishes.kp S.b_wishes .nil (fun _ => .nil) tk (acons (dv 0) (acons (dv 1) anil)))) (gname 5 sc_taken_up.nd)
   (bone (sfor po (iL (dcall (dds := []) (ok_sendings_of S) (hr.mono (by decide)) S.g_sendings_of S.F_sendings_of.kp S.b_sendings_of .nil (fun _ => .nil) tk (acons (dv 0) (acons (dv 1) (acons (dv 5) anil))))) (gname 6 sc_taken_up.nd)
   (bcons (sset 7 sc_taken_up.nd (dcall (dds := []) (ok_least_free S) (hr.mono (by decide)) S.g_least_free S.F_least_free.kp S.b_least_free .nil (fun _ => .nil) tk (acons (dv 3) (acons (dv 4) (acons (ddget (hu1 hr) (dv 3) (dv 6)) anil)))))
  (bone (sif (tcmp op_lt lr_lt (dv 7) (dv 2) (nomark _))
   (bcons (sdput (hu1 hr) (dv 7) (dv 4) (dv 6))
  (bone sbreak)) bnil))))))
  (bone (sret (dv 4)))))))
  · exact bl_len (m := 1) (fun _ => rfl) h
  · intro ss st ok ex h
    unfold ctTaken at h
    rw [ctBL_eq] at h
    obtain ⟨b, l, k0, rfl, hb, hl, hk0, k⟩ := h
    walk_at "w"
    refine bl_at () rfl hb hl trivial ?_
    walk_at "w"
    intro p hp
    walk_at "w"
    refine bl_at () rfl hb hl trivial ?_
    walk_at "w"
    refine loop_fold (wishes b l) epD (takeStep b l k0) [] (fun pl Δ' st' => ∃ v5 v6 v7, Δ' = [.dat (b.d ⟨S.C_Book, S.C_Rule, S.C_Listing, S.C_Sending⟩), .dat (lstD ⟨S.C_Book, S.C_Rule, S.C_Listing, S.C_Sending⟩ l), dI (k0 : Int), .dat (dicD winD (windows b l)), .own p, v5, v6, v7] ∧ st' = (p, .dic (pl.map fun x => ((Sum.inr x.1 : Key), dI x.2))) :: st) (by rw [List.map_map]; rfl) ⟨.un, .un, .un, rfl, rfl⟩ ?_ ?_
    · rintro pre e post pl Δ' st' has hs ⟨v5, v6, v7, rfl, rfl⟩
      obtain ⟨inv, hne⟩ := pinv_pre hl k0 has
      rw [← hs] at inv
      have hpl : pre.length ≤ 10 := by
        have := wishes_len (b := b) hl
        rw [has, List.length_append] at this
        omega
      obtain ⟨pok, pws⟩ := inv.ok hl hpl
      have hme : e ∈ wishes b l := by rw [has]; simp
      walk_at "w"
      refine bl_at e rfl hb hl (wishes_mem.mp hme) ?_
      walk_at "w"
      refine loop_find (sendsOf b l e) (fun n => .str n) (fun n => (freeAt (windows b l) pl k0 n).isSome) (fun Δ' st' => ∃ v6 v7, Δ' = [.dat (b.d ⟨S.C_Book, S.C_Rule, S.C_Listing, S.C_Sending⟩), .dat (lstD ⟨S.C_Book, S.C_Rule, S.C_Listing, S.C_Sending⟩ l), dI (k0 : Int), .dat (dicD winD (windows b l)), .own p, .dat (epD e), v6, v7] ∧ st' = (p, .dic (pl.map fun x => ((Sum.inr x.1 : Key), dI x.2))) :: st) (by rw [List.map_map]; rfl) ⟨v6, v7, rfl, rfl⟩ ?_ ?_
      · rintro i n Δ' st' hi J
        obtain ⟨v6, v7, rfl, rfl⟩ := J.r
        have hm := List.mem_of_getElem? hi
        obtain ⟨x, hx, rfl, hxe⟩ := sends_mem.mp hm
        walk_at "w"
        refine ⟨.inr x.n, .dat (winD x.win), rfl, by rw [getD_dic winD (windows b l) x.n, win_look hl hx]; rfl, ?_⟩
        walk_at "w"
        rw [ctLeast_eq]
        refine ⟨windows b l, pl, x.win, k0, ⟨_, rfl, .inr ⟨p, 0, rfl, rfl⟩⟩, pok, pws, fun y hy => (inv.mem y hy).2.2, fun r h1 h2 h3 => ?_⟩
        rw [← win_of hl hx] at h3
        simp only [← win_of hl hx] at h2
        walk_at "w"
        refine ⟨fun h => ?_, fun h => ?_⟩
        · have hr : r < k0 := by have := of_decide_eq_true h; omega
          have hf := free_some hr h2 h3
          walk_at "w"
          refine ⟨0, _, .inr x.n, rfl, rfl, ?_, ?_⟩
          · rw [List.length_map]
            exact Nat.lt_of_le_of_lt pok.len (by rw [sizeLine_eq]; decide)
          walk_at "w"
          have hff := first_some (fj_yes hi J (by show (freeAt _ _ _ _).isSome = true; rw [hf]; rfl)) hf
          refine ⟨_, _, _, rfl, ?_⟩
          have hnew : (Sum.inr x.n : Key) ∉ (pl.map fun x => ((Sum.inr x.1 : Key), dI x.2)).map (·.1) := by
            rw [List.map_map]
            intro z
            obtain ⟨y, hy, e1⟩ := List.mem_map.mp z
            exact inv.new hl hne hm (List.mem_map.mpr ⟨y, hy, Sum.inr.inj e1⟩)
          unfold takeStep
          rw [hff, putD_new hnew]
          unfold addTo
          rw [List.map_append]
          rfl
        · have hr : k0 ≤ r := by have := of_decide_eq_false h; omega
          have hf := free_none (n := x.n) hr h2
          walk_at "w"
          exact fj_no hi J (by show (freeAt _ _ _ _).isSome = false; rw [hf]; rfl) ⟨_, _, rfl, rfl⟩
      · rintro Δ' st' ⟨v6, v7, rfl, rfl⟩ hn
        walk_at "w"
        have hff := first_none hn
        refine ⟨_, _, _, rfl, ?_⟩
        unfold takeStep
        rw [hff]
        rfl
    · rintro Δ' st' ⟨v5, v6, v7, rfl, rfl⟩
      walk_at "w"
      refine ⟨.dat (dicD .int (taken b l k0)), st, .pub (j := 0) rfl (.dic ?_) hp (.cons _ (List.Sublist.refl _)), k⟩
      have := allK_map ((taken b l k0).map fun x => ((Sum.inr x.1 : Key), Dt.int x.2))
      rw [List.map_map] at this
      exact this
theorem ok_own_plan (S : En K mg) : FnOk P w K mg base (L2.CX P w) 8 S.f_own_plan S.d_own_plan ["book", "listing", "receivers"] (lowF K (ctOwnX ⟨S.C_Book, S.C_Rule, S.C_Listing, S.C_Sending⟩ S.C_InvalidNumber)) := by
  refine fn_low _ S.F_own_plan sc_own_plan (fun ss st ok ex h => ?_) ?_ (fun cdv A outer s H E hr tk po => (bcons (sdrop (dcall (dds := []) (ok_check_receivers S) (hr.mono (by decide)) S.g_check_receivers S.F_check_receivers.kp S.b_check_receivers .nil (fun _ => .nil) tk (acons (dv 2) anil)))
  (bone (sret (dcall (dds := []) (ok_ascending S) (hr.mono (by decide)) S.g_ascending S.F_ascending.kp S.b_ascending .nil (fun _ => .nil) tk (acons (dcall (dds := []) (ok_taken_up S) (hr.mono (by decide)) S.g_taken_up S.F_taken_up.kp S.b_taken_up .nil (fun _ => .nil) tk (acons (dv 0) (acons (dv 1) (acons (dv 2) anil)))) anil))))))
  · rcases h with h | ⟨_, _, _, rfl, _⟩; exact bl_len (m := 1) (fun _ => rfl) h; rfl
  · rintro ss st ok ex (h | ⟨b, l, d, rfl, hd, k⟩)
    · unfold ctOwn at h
      rw [ctBL_eq] at h
      obtain ⟨b, l, k0, rfl, hb, hl, ⟨hk1, hk2⟩, k⟩ := h
      walk_at "w"
      refine Or.inl ⟨k0, rfl, hk1, hk2, ?_⟩
      walk_at "w"
      refine bl_at k0 rfl hb hl hk2 ?_
      walk_at "w"
      rw [ctAsc_eq]
      refine ⟨_, rfl, ((taken_inv hl k0).ok hl (wishes_len hl)).1, ?_⟩
      walk_at "f"
      exact k
    · walk_at "w"
      refine Or.inr ⟨d, rfl, hd, ?_⟩
      exact ⟨st, List.Sublist.refl _, k⟩
theorem ok_begin_then_name (S : En K mg) : FnOk P w K mg base (L2.CX P w) 1 S.f_begin_then_name S.d_begin_then_name ["windows", "names"] (lowF K ctBtnP) := by
  refine fn_low _ S.F_begin_then_name sc_begin_then_name (fun ss st ok ex h => ?_) ?_ (fun cdv A outer s H E hr tk po => (bone (sret (dlc [("row", 2)] sc_begin_then_name.nd (iL (dcb (cr_sortP (hu65 hr)) lc_sortP S.n_sorted PyProof.Rows.boot_sorted (acons (dlcK [("name", 3)] sc_begin_then_name.nd (dv 1) (blkOk_by (N := ["windows", "names", "row", "name"]) (sc := defScope s_begin_then_name) (by decide +kernel)) (fun _ _ _ _ _ => (gwname 3 sc_begin_then_name.nd)) (fun _ _ _ _ _ => tsnil) (fun _ _ _ _ _ => (dtup (acons (dix ix_tup lr_ixT (ddget (hu1 hr) (dv 0) (dv 3)) di) (acons (dv 3) anil))))) anil))) (blkOk_by (N := ["windows", "names", "row", "name"]) (sc := defScope s_begin_then_name) (by decide +kernel)) (fun _ _ _ _ _ => (gwname 2 sc_begin_then_name.nd)) (fun _ _ _ _ _ => tsnil) (fun _ _ _ _ _ => (dix ix_tup lr_ixT (dv 2) di))))))
  · rcases h with h | ⟨_, _, rfl, _⟩; rw [ctBtn_eq] at h; obtain ⟨_, rfl, _⟩ := h; rfl; rfl
  · rintro ss st ok ex (h | ⟨ws, p, rfl, h10, nd, hin, k⟩)
    · rw [ctBtn_eq] at h
      obtain ⟨ws, rfl, h10, nd, k⟩ := h
      walk_at "w"
      refine lc_pure ws (fun x => .str x.1) (fun x => some (bnD (x.2.1, x.1))) (by unfold keysD; rw [List.map_map]; rfl) ?_ ?_
      · intro i x D acc hx hD J
        have hxm := List.mem_of_getElem? hx
        have hlk := look_mem nd hxm
        walk_at "ss"
        refine ⟨.inr x.1, .dat (winD x.2), rfl, by rw [getD_dic winD ws x.1, hlk]; rfl, ?_⟩
        walk_at "yy"
        exact lc_yes (by rw [sizeLine_eq]; omega) hx J rfl
      rw [fm_some (fun x : Str × Win => bnD (x.2.1, x.1))]
      walk_at "w"
      refine ⟨Bn, ws.map (fun x => ((x.2.1, x.1) : Bn)), bnD, bnP, by rw [List.map_map, List.map_map]; rfl, bn_of, bn_alike _, bn_sortable _, fun r _ => bn_depth r, ?_⟩
      rw [show (ws.map fun x => ((x.2.1, x.1) : Bn)).mergeSort (PySem.W.dataLe false bnP) = btRows ws from rfl]
      walk_at "w"
      refine lc_pure (btRows ws) bnD (fun r => some (.str r.2)) (by rw [List.map_map]; rfl) ?_ ?_
      · intro i r D acc hx hD J
        have hle : (btRows ws).length ≤ 10 := by rw [(bt_perm ws).length_eq, List.length_map]; exact h10
        walk_at "ss"
        walk_at "yy"
        exact lc_yes (by rw [sizeLine_eq]; omega) hx J rfl
      rw [fm_some (fun r : Bn => Dt.str r.2)]
      walk_at "f"
      have e : (btRows ws).map (fun r => Dt.str r.2) = (btn ws).map Dt.str := by unfold btn; rw [List.map_map]; rfl
      rw [e]
      exact k
    · obtain ⟨ws2, hws2⟩ : ∃ ws2, ws2 = p.map fun x => (x.1, winOf ws x.1) := ⟨_, rfl⟩
      have hl2 : ws2.length ≤ 10 := by rw [hws2, List.length_map]; exact h10
      rw [← hws2] at k
      walk_at "w"
      refine lc_pure p (fun x => .str x.1) (fun x => some (bnD ((winOf ws x.1).1, x.1))) (by unfold keysD; rw [List.map_map]; rfl) ?_ ?_
      · intro i x D acc hx hD J
        have hxm := List.mem_of_getElem? hx
        obtain ⟨w, hlk⟩ := hin x hxm
        have hwo : winOf ws x.1 = w := by unfold winOf; rw [hlk]; rfl
        walk_at "ss"
        refine ⟨.inr x.1, .dat (winD w), rfl, by rw [getD_dic winD ws x.1, hlk]; rfl, ?_⟩
        walk_at "yy"
        exact lc_yes (by rw [sizeLine_eq]; omega) hx J (by rw [hwo]; rfl)
      rw [fm_some (fun x : Str × Int => bnD ((winOf ws x.1).1, x.1))]
      walk_at "w"
      refine ⟨Bn, ws2.map (fun x => ((x.2.1, x.1) : Bn)), bnD, bnP, by rw [hws2, List.map_map, List.map_map, List.map_map]; rfl, bn_of, bn_alike _, bn_sortable _, fun r _ => bn_depth r, ?_⟩
      rw [show (ws2.map fun x => ((x.2.1, x.1) : Bn)).mergeSort (PySem.W.dataLe false bnP) = btRows ws2 from rfl]
      walk_at "w"
      refine lc_pure (btRows ws2) bnD (fun r => some (.str r.2)) (by rw [List.map_map]; rfl) ?_ ?_
      · intro i r D acc hx hD J
        have hle : (btRows ws2).length ≤ 10 := by rw [(bt_perm ws2).length_eq, List.length_map]; exact hl2
        walk_at "ss"
        walk_at "yy"
        exact lc_yes (by rw [sizeLine_eq]; omega) hx J rfl
      rw [fm_some (fun r : Bn => Dt.str r.2)]
      walk_at "f"
      have e : (btRows ws2).map (fun r => Dt.str r.2) = (btn ws2).map Dt.str := by unfold btn; rw [List.map_map]; rfl
      rw [e]
      exact k
theorem ok_recorded_minutes (S : En K mg) : FnOk P w K mg base (L2.CX P w) 9 S.f_recorded_minutes S.d_recorded_minutes ["book", "listing", "receivers"] (lowF K (ctRecMinX ⟨S.C_Book, S.C_Rule, S.C_Listing, S.C_Sending⟩ S.C_InvalidNumber)) := by
  refine fn_low _ S.F_recorded_minutes sc_recorded_minutes (fun ss st ok ex h => ?_) ?_ (fun cdv A outer s H E hr tk po => (bcons (sset 3 sc_recorded_minutes.nd (dcall (dds := []) (ok_own_plan S) (hr.mono (by decide)) S.g_own_plan S.F_own_plan.kp S.b_own_plan .nil (fun _ => .nil) tk (acons (dv 0) (acons (dv 1) (acons (dv 2) anil)))))
  (bcons (sset 4 sc_recorded_minutes.nd (dcall (dds := []) (ok_wished_windows S) (hr.mono (by decide)) S.g_wished_windows S.F_wished_windows.kp S.b_wished_windows .nil (fun _ => .nil) tk (acons (dv 0) (acons (dv 1) anil))))
  (bone (sret (ddc [("name", 5)] sc_recorded_minutes.nd (iL (dcall (dds := []) (ok_begin_then_name S) (hr.mono (by decide)) S.g_begin_then_name S.F_begin_then_name.kp S.b_begin_then_name .nil (fun _ => .nil) tk (acons (dv 4) (acons (dv 3) anil)))) (blkOk_by (N := ["book", "listing", "receivers", "plan", "windows", "name"]) (sc := defScope s_recorded_minutes) (by decide +kernel)) (fun _ _ _ _ _ => (gwname 5 sc_recorded_minutes.nd)) (fun _ _ _ _ _ => tsnil) (fun _ _ _ _ _ => (dv 5)) (fun _ _ _ _ _ => (dop op_sub lr_sub (dix ix_tup lr_ixT (ddget (hu1 hr) (dv 4) (dv 5)) di) (dix ix_tup lr_ixT (ddget (hu1 hr) (dv 4) (dv 5)) di)))))))))
  · rcases h with h | ⟨_, _, _, rfl, _⟩; exact bl_len (m := 1) (fun _ => rfl) h; rfl
  · rintro ss st ok ex (h | ⟨b, l, d, rfl, hd, k⟩)
    · unfold ctRecMin at h
      rw [ctBL_eq] at h
      obtain ⟨b, l, k0, rfl, hb, hl, ⟨hk1, hk2⟩, k⟩ := h
      have hok := sizes_ok hb hl k0
      have hkn := hok.nd
      have hl10 := hok.len
      unfold sizesOf at hkn hl10
      rw [List.length_map] at hl10
      rw [List.map_map] at hkn
      have hwin := own_wn (b := b) hl (k := k0)
      obtain ⟨u, hu⟩ : ∃ u, u = (ownPlan b l k0).map (·.1) := ⟨_, rfl⟩
      rw [← hu] at hkn hl10 hwin
      have hbt : btn ((ownPlan b l k0).map fun x => (x.1, winOf (windows b l) x.1)) = btn (winsOf b l u) := by
        rw [hu]
        unfold winsOf
        rw [List.map_map]
        rfl
      have hbm : ∀ n ∈ btn (winsOf b l u), n ∈ u := fun n hn => by
        have := (btn_perm (winsOf b l u)).mem_iff.mp hn
        rwa [wins_keys] at this
      unfold sizesOf at k
      rw [← hu] at k
      walk_at "w"
      refine Or.inl (bl_at k0 rfl hb hl ⟨hk1, hk2⟩ ?_)
      walk_at "w"
      refine bl_at () rfl hb hl trivial ?_
      walk_at "w"
      refine Or.inr ⟨windows b l, ownPlan b l k0, rfl, own_len hl k0, own_nd hl k0, fun x hx => ?_, ?_⟩
      · obtain ⟨w, hw, e, _⟩ := own_wish hl hx
        exact ⟨w.win, by rw [← e]; exact win_look hl hw⟩
      rw [hbt]
      walk_at "w"
      refine dc_pure (btn (winsOf b l u)) (fun n => .str n) (fun n => some (.inr n, .int ((winOf (windows b l) n).2 - (winOf (windows b l) n).1))) (by rw [List.map_map]; rfl) ?_ ?_
      · intro i n D acc hx hD J
        obtain ⟨w, hw, e⟩ := List.mem_map.mp (hwin n (hbm n (List.mem_of_getElem? hx)))
        have e : w.n = n := e
        have hlk : look (windows b l) n = some w.win := by rw [← e]; exact win_look hl hw
        have hwo : winOf (windows b l) n = w.win := by unfold winOf; rw [hlk]; rfl
        walk_at "ss"
        refine ⟨.inr n, .dat (winD w.win), rfl, by rw [getD_dic winD (windows b l) n, hlk]; rfl, ?_⟩
        walk_at "w"
        refine ⟨_, rfl, ?_⟩
        walk_at "w"
        refine ⟨.inr n, .dat (winD w.win), rfl, by rw [getD_dic winD (windows b l) n, hlk]; rfl, ?_⟩
        walk_at "w"
        refine ⟨_, rfl, ?_⟩
        exact dc_yes (by rw [sizeLine_eq]; omega) (by
          rw [show (fun n => some ((Sum.inr n : Key), Dt.int ((winOf (windows b l) n).2 - (winOf (windows b l) n).1))) = some ∘ fun n => ((Sum.inr n : Key), Dt.int ((winOf (windows b l) n).2 - (winOf (windows b l) n).1)) from rfl, List.filterMap_eq_map, List.map_map]
          have h9 := List.pairwise_map.mp hkn
          exact List.pairwise_map.mpr (h9.imp fun {a c} h z => h (Sum.inr.inj z))) hx J (by rw [hwo]) rfl
      · walk_at "f"
        rw [show (fun n => some ((Sum.inr n : Key), Dt.int ((winOf (windows b l) n).2 - (winOf (windows b l) n).1))) = some ∘ fun n => ((Sum.inr n : Key), Dt.int ((winOf (windows b l) n).2 - (winOf (windows b l) n).1)) from rfl, List.filterMap_eq_map]
        unfold dicD at k
        rw [List.map_map] at k
        exact k
    · walk_at "w"
      exact Or.inr ⟨b, l, d, rfl, hd, ⟨st, List.Sublist.refl _, k⟩⟩
theorem ok_minutes_of (S : En K mg) : FnOk P w K mg base (L2.CX P w) 1 S.f_minutes_of S.d_minutes_of ["sizes", "names"] (lowF K ctMins) := by
  refine fn_low _ S.F_minutes_of sc_minutes_of (fun ss st ok ex h => ?_) ?_ (fun cdv A outer s H E hr tk po => (bone (sret (dcb (cr_sum rfl) lc_sum S.n_sum PyProof.Rows.boot_sum (acons (deither (dlc [("name", 2)] sc_minutes_of.nd (iL (dv 1)) (blkOk_by (N := ["sizes", "names", "name"]) (sc := defScope s_minutes_of) (by decide +kernel)) (fun _ _ _ _ _ => (gwname 2 sc_minutes_of.nd)) (fun _ _ _ _ _ => tsnil) (fun _ _ _ _ _ => (ddget (hu1 hr) (dv 0) (dv 2)))) (dlcO [("name", 2)] sc_minutes_of.nd (dv 1) (blkOk_by (N := ["sizes", "names", "name"]) (sc := defScope s_minutes_of) (by decide +kernel)) (fun _ _ _ _ _ => (gwname 2 sc_minutes_of.nd)) (fun _ _ _ _ _ => tsnil) (fun _ _ _ _ _ => (ddget (hu1 hr) (dv 0) (dv 2))))) anil)))))
  · (repeat (first | (obtain ⟨rfl, _⟩ := h; rfl) | (obtain ⟨_, h⟩ := h)))
  · rintro ss st ok ex ⟨sz, ns, x, rfl, hx, hl, hin, k⟩
    have hg : ∀ n ∈ ns, getD ((sz.map fun x => ((Sum.inr x.1 : Key), Dt.int x.2)).map fun kv => (kv.1, Sv.dat kv.2)) (.inr n) = some (.dat (.int ((look sz n).getD 0))) := fun n hn => by
      obtain ⟨v, hv⟩ := hin n hn
      rw [getD_dic Dt.int sz n, hv]
      rfl
    rcases hx with rfl | ⟨q, j, rfl, hj⟩
    · walk_at "w"
      refine Or.inl ?_
      walk_at "w"
      refine lc_pure ns .str (fun n => some (.int ((look sz n).getD 0))) (by rw [List.map_map]; rfl) ?_ ?_
      · intro i n D acc hi hD J
        walk_at "ss"
        refine ⟨.inr n, _, rfl, hg n (List.mem_of_getElem? hi), ?_⟩
        walk_at "w"
        exact lc_yes (by rw [sizeLine_eq]; omega) hi J rfl
      rw [fm_some]
      walk_at "w"
      refine ⟨ns.map fun n => (look sz n).getD 0, by rw [List.map_map, List.map_map]; rfl, ?_⟩
      walk_at "f"
      exact k
    · walk_at "w"
      refine Or.inr ?_
      walk_at "w"
      refine ⟨j, _, hj, ?_⟩
      refine lcO_pure ns .str (fun n => some (.int ((look sz n).getD 0))) rfl hj ?_ ?_
      · intro i n D acc hi hD J
        walk_at "ss"
        refine ⟨.inr n, _, rfl, hg n (List.mem_of_getElem? hi), ?_⟩
        walk_at "w"
        exact lc_yes (by rw [sizeLine_eq]; omega) hi J rfl
      rw [fm_some]
      walk_at "w"
      refine ⟨ns.map fun n => (look sz n).getD 0, by rw [List.map_map, List.map_map]; rfl, ?_⟩
      walk_at "f"
      exact k
theorem ok_among (S : En K mg) : FnOk P w K mg base (L2.CX P w) 1 S.f_among S.d_among ["names", "others"] (lowF K ctAmong2) := by
  refine fn_low _ S.F_among sc_among (fun ss st ok ex h => ?_) ?_ (fun cdv A outer s H E hr tk po => (bone (sret (deither (dlc [("name", 2)] sc_among.nd (iL (dv 0)) (blkOk_by (N := ["names", "others", "name"]) (sc := defScope s_among) (by decide +kernel)) (fun _ _ _ _ _ => (gwname 2 sc_among.nd)) (fun _ _ _ _ _ => (tsone (tsIn hr (dv 2) (dv 1)))) (fun _ _ _ _ _ => (dv 2))) (dlcO [("name", 2)] sc_among.nd (dv 0) (blkOk_by (N := ["names", "others", "name"]) (sc := defScope s_among) (by decide +kernel)) (fun _ _ _ _ _ => (gwname 2 sc_among.nd)) (fun _ _ _ _ _ => (tsone (tsIn hr (dv 2) (dv 1)))) (fun _ _ _ _ _ => (dv 2)))))))
  · (repeat (first | (obtain ⟨rfl, _⟩ := h; rfl) | (obtain ⟨_, h⟩ := h)))
  · rintro ss st ok ex ⟨ns, t, x, rfl, hx, hl, hw, ht, k⟩
    rcases hx with rfl | ⟨q, j, rfl, hj⟩
    · walk_at "w"
      refine Or.inl ?_
      walk_at "w"
      refine lc_pure ns .str (fun n => if isIn t n = true then some (.str n) else none) (by rw [List.map_map]; rfl) ?_ ?_
      · intro i n D acc hi hD J
        have hn := hw n (List.mem_of_getElem? hi)
        walk_at "ss"
        refine ⟨txtP n, t.map txtP, txt_of _, txts_of _, txt_shaped _ hn, txts_lay _ ht, ?_⟩
        rw [txt_any]
        refine ⟨fun h => ?_, fun h => ?_⟩
        · exact lc_yes (by rw [sizeLine_eq]; omega) hi J (if_pos h)
        · exact lc_no hi J (if_neg (by unfold isIn; have h : decide (n ∈ t) = false := h; rw [h]; decide))
      rw [fm_if]
      walk_at "f"
      exact k
    · walk_at "w"
      refine Or.inr ?_
      walk_at "w"
      refine ⟨j, _, hj, ?_⟩
      refine lcO_pure ns .str (fun n => if isIn t n = true then some (.str n) else none) rfl hj ?_ ?_
      · intro i n D acc hi hD J
        have hn := hw n (List.mem_of_getElem? hi)
        walk_at "ss"
        refine ⟨txtP n, t.map txtP, txt_of _, txts_of _, txt_shaped _ hn, txts_lay _ ht, ?_⟩
        rw [txt_any]
        refine ⟨fun h => ?_, fun h => ?_⟩
        · exact lc_yes (by rw [sizeLine_eq]; omega) hi J (if_pos h)
        · exact lc_no hi J (if_neg (by unfold isIn; have h : decide (n ∈ t) = false := h; rw [h]; decide))
      rw [fm_if]
      walk_at "f"
      exact k
theorem ok_on_disk (S : En K mg) : FnOk P w K mg base (L2.CX P w) 10 S.f_on_disk S.d_on_disk ["book", "listing", "receivers", "minutes", "protected"] (lowF K (ctDiskX ⟨S.C_Book, S.C_Rule, S.C_Listing, S.C_Sending⟩ S.C_InvalidNumber)) := by
  refine fn_low _ S.F_on_disk sc_on_disk (fun ss st ok ex h => ?_) ?_ (fun cdv A outer s H E hr tk po => (bcons (sset 5 sc_on_disk.nd (dcall (dds := []) (ok_recorded_minutes S) (hr.mono (by decide)) S.g_recorded_minutes S.F_recorded_minutes.kp S.b_recorded_minutes .nil (fun _ => .nil) tk (acons (dv 0) (acons (dv 1) (acons (dv 2) anil)))))
  (bcons (sdrop (dcall (dds := []) (ok_check_number S) (hr.mono (by decide)) S.g_check_number S.F_check_number.kp S.b_check_number .nil (fun _ => .nil) tk (acons (dv 3) (acons di (acons (dgl S.c_MOST_MINUTES S.r_MOST_MINUTES) anil)))))
  (bcons (spar3 6 7 8 sc_on_disk.nd (acons (dlstO anil) (acons (dlstO anil) (acons (dlstO anil) anil))))
  (bcons (sforK po tk (dv 5) (gname 9 sc_on_disk.nd)
   (fun V tk => (bone (sif (tcmp op_gt lr_gt (ddget (hu1 hr) (dv 5) (dv 9)) (dop op_sub lr_sub (dv 3) (dcall (dds := []) (ok_minutes_of S) (hr.mono (by decide)) S.g_minutes_of S.F_minutes_of.kp S.b_minutes_of .nil (fun _ => .nil) tk (acons (dv 5) (acons (dcall (dds := []) (ok_among S) (hr.mono (by decide)) S.g_among S.F_among.kp S.b_among .nil (fun _ => .nil) tk (acons (dv 6) (acons (dv 4) anil))) anil)))) (nomark _))
   (bone (sapp (dv 8) (dv 9))) (bcons (swhile po (tcmp op_gt lr_gt (dop op_add lr_add (dcall (dds := []) (ok_minutes_of S) (hr.mono (by decide)) S.g_minutes_of S.F_minutes_of.kp S.b_minutes_of .nil (fun _ => .nil) tk (acons (dv 5) (acons (dv 6) anil))) (ddget (hu1 hr) (dv 5) (dv 9))) (dv 3) (nomark _))
   (bcons (sset 10 sc_on_disk.nd (dix ix_list lr_ixL (dlcO [("other", 11)] sc_on_disk.nd (dv 6) (blkOk_by (N := ["book", "listing", "receivers", "minutes", "protected", "sizes", "kept", "deleted", "refused", "name", "earliest", "other"]) (sc := defScope s_on_disk) (by decide +kernel)) (fun _ _ _ _ _ => (gwname 11 sc_on_disk.nd)) (fun _ _ _ _ _ => (tsone (tsNi hr (dv 11) (dv 4)))) (fun _ _ _ _ _ => (dv 11))) di))
  (bcons (srem (dv 6) (dv 10))
  (bone (sapp (dv 7) (dv 10))))))
  (bone (sapp (dv 6) (dv 9))))))))
  (bone (sret (dtup (acons (dpub (dv 6)) (acons (dpub (dv 7)) (acons (dpub (dv 8)) anil)))))))))))
  · rcases h with h | ⟨_, _, _, _, _, rfl, _⟩ | ⟨_, _, _, _, _, rfl, _⟩; exact bl_len (m := 3) (fun _ => rfl) h; rfl; rfl
  · rintro ss st ok ex (h | ⟨b, l, d, m, t, rfl, hd, k⟩ | ⟨b, l, k0, d, t, rfl, hb, hl, hk1, hk2, hd, k⟩)
    · unfold ctDisk at h
      rw [ctBL_eq] at h
      obtain ⟨b, l, ⟨k0, m, t⟩, rfl, hb, hl, ⟨⟨hk1, hk2⟩, ⟨hm1, hm2⟩, ht⟩, k⟩ := h
      have hok := sizes_ok hb hl k0
      obtain ⟨sz, hsz⟩ : ∃ sz, sz = sizesOf b l k0 := ⟨_, rfl⟩
      rw [← hsz] at hok
      dsimp only at k hm1 hm2 ht
      rw [← hsz] at k
      walk_at "w"
      refine Or.inl (bl_at k0 rfl hb hl ⟨hk1, hk2⟩ ?_)
      rw [← hsz]
      walk_at "w"
      refine Or.inl ⟨m, 1, 1000000, rfl, hm1, hm2, ?_⟩
      walk_at "w"
      refine ⟨Nat.zero_le _, ?_⟩
      walk_at "w"
      intro pk hpk
      walk_at "w"
      refine ⟨Nat.zero_le _, ?_⟩
      walk_at "w"
      intro pd hpd
      walk_at "w"
      refine ⟨Nat.zero_le _, ?_⟩
      walk_at "w"
      intro pr hpr
      walk_at "w"
      have hks : ∀ n ∈ sz.map (·.1), isWord n = true ∧ ∃ v, look sz n = some v := fun n hn => by
        obtain ⟨x, hx, rfl⟩ := List.mem_map.mp hn
        exact ⟨hok.word x hx, x.2, hok.look hx⟩
      refine loop_fold sz (fun x => .str x.1) (dkStep sz t m) ⟨[], [], []⟩ (fun a Δ' st' => ∃ v9 v10 v11, Δ' = [.dat (b.d ⟨S.C_Book, S.C_Rule, S.C_Listing, S.C_Sending⟩), .dat (lstD ⟨S.C_Book, S.C_Rule, S.C_Listing, S.C_Sending⟩ l), dI (k0 : Int), dI m, .dat (nsD t), .dat (dicD .int sz), .own pk, .own pd, .own pr, v9, v10, v11] ∧ st' = (pr, Ob.lst (a.ref.map fun n => .dat (.str n))) :: (pd, Ob.lst (a.del.map fun n => .dat (.str n))) :: (pk, Ob.lst (a.kept.map fun n => .dat (.str n))) :: st) (by unfold keysD; rw [List.map_map]; rfl) ⟨.un, .un, .un, rfl, rfl⟩ ?_ ?_
      · rintro pre x post a Δ' st' has hs ⟨v9, v10, v11, rfl, rfl⟩
        have inv : DkI sz pre a := by rw [hs]; exact disk_pre sz t m pre
        have hxs : x ∈ sz := by rw [has]; simp
        have hpre : ∀ n ∈ pre.map (·.1), n ∈ sz.map (·.1) := fun n hn => by rw [has, List.map_append]; exact List.mem_append_left _ hn
        have hprel : pre.length ≤ 9 := by
          have h1 := congrArg List.length has
          rw [List.length_append, List.length_cons] at h1
          have := hok.len
          omega
        have hxg : getD ((sz.map fun x => ((Sum.inr x.1 : Key), Dt.int x.2)).map fun kv => (kv.1, Sv.dat kv.2)) (.inr x.1) = some (.dat (.int x.2)) := by
          rw [getD_dic Dt.int sz x.1, hok.look hxs]
          rfl
        have hkept : ∀ n ∈ a.kept, isWord n = true ∧ ∃ v, look sz n = some v := fun n hn => hks n (hpre n (inv.kept.subset hn))
        have hlen := inv.len
        have nea : pk ≠ pd := fun z => hpd (by rw [← z]; exact List.mem_cons_self)
        have neb : pk ≠ pr := fun z => hpr (by rw [← z]; exact List.mem_cons_of_mem _ List.mem_cons_self)
        have nec : pd ≠ pr := fun z => hpr (by rw [← z]; exact List.mem_cons_self)
        walk_at "w"
        refine ⟨.inr x.1, _, rfl, hxg, ?_⟩
        walk_at "w"
        refine ⟨a.kept, t, _, rfl, Or.inr ⟨pk, 2, rfl, rfl⟩, by omega, fun n hn => (hkept n hn).1, ht, ?_⟩
        walk_at "w"
        refine ⟨sz, a.kept.filter (isIn t), _, rfl, Or.inl rfl, Nat.le_trans (List.length_filter_le _ _) (by omega), fun n hn => (hkept n (List.mem_filter.mp hn).1).2, ?_⟩
        walk_at "w"
        refine ⟨fun c => ?_, fun c => ?_⟩
        · have c := of_decide_eq_true c
          obtain ⟨e1, _⟩ := inv.refuse (x := x) (t := t) (m := m) c
          walk_at "w"
          refine ⟨⟨0, _, rfl⟩, ?_⟩
          walk_at "w"
          refine ⟨0, _, rfl, by rw [List.length_map, sizeLine_eq]; omega, ?_⟩
          walk_at "w"
          refine ⟨_, _, _, rfl, ?_⟩
          rw [e1, List.map_append]
          rfl
        · have c := of_decide_eq_false c
          walk_at "w"
          rw [whileD_eq]
          refine ⟨fun n Δ' st' => ∃ kept del v10 v11, EvI sz pre t m x.2 a n kept del ∧ Δ' = [.dat (b.d ⟨S.C_Book, S.C_Rule, S.C_Listing, S.C_Sending⟩), .dat (lstD ⟨S.C_Book, S.C_Rule, S.C_Listing, S.C_Sending⟩ l), dI (k0 : Int), dI m, .dat (nsD t), .dat (dicD .int sz), .own pk, .own pd, .own pr, .dat (.str x.1), v10, v11] ∧ st' = (pr, Ob.lst (a.ref.map fun n => .dat (.str n))) :: (pd, Ob.lst (del.map fun n => .dat (.str n))) :: (pk, Ob.lst (kept.map fun n => .dat (.str n))) :: st, ⟨_, a.kept, a.del, _, _, EvI.start inv c, rfl, rfl⟩, ?_⟩
          rintro n Δ' st' ⟨kept, del, v10, v11, ev, rfl, rfl⟩
          have hkept2 : ∀ n ∈ kept, isWord n = true ∧ ∃ v, look sz n = some v := fun n hn => hks n (hpre n (ev.sub.subset hn))
          have hdl := ev.dl
          walk_at "w"
          refine ⟨sz, kept, _, rfl, Or.inr ⟨pk, 2, rfl, rfl⟩, by omega, fun n hn => (hkept2 n hn).2, ?_⟩
          walk_at "w"
          refine ⟨.inr x.1, _, rfl, hxg, ?_⟩
          walk_at "w"
          refine ⟨fun c2 => ?_, fun c2 => ?_⟩
          · have c2 := of_decide_eq_true c2
            obtain ⟨e, es, he, hem⟩ := ev.first c2
            obtain ⟨n', hn', ev'⟩ := ev.step c2 he
            obtain ⟨i, hi1, hi2, hi3⟩ := first_atT hem
            walk_at "w"
            refine ⟨2, _, rfl, ?_⟩
            refine lcO_pure kept .str (fun n => if (!isIn t n) = true then some (.str n) else none) rfl (j := 2) rfl ?_ ?_
            · intro i3 n D acc hi D2 J
              have hn := (hkept2 n (List.mem_of_getElem? hi)).1
              walk_at "ss"
              refine ⟨txtP n, t.map txtP, txt_of _, txts_of _, txt_shaped _ hn, txts_lay _ ht, ?_⟩
              rw [txt_any]
              refine ⟨fun h => ?_, fun h => ?_⟩
              · exact lc_yes (by rw [sizeLine_eq]; omega) hi J (if_pos h)
              · exact lc_no hi J (if_neg (by unfold isIn; have h : (!decide (n ∈ t)) = false := h; rw [h]; decide))
            rw [fm_if, he]
            walk_at "w"
            refine ⟨.dat (.str e), atI_get (by decide) rfl, ?_⟩
            walk_at "w"
            refine ⟨⟨2, _, rfl⟩, ?_⟩
            walk_at "w"
            refine ⟨2, kept, i, rfl, hi1, hi2, ?_⟩
            walk_at "w"
            refine ⟨⟨1, _, rfl⟩, ?_⟩
            walk_at "w"
            refine ⟨1, _, rfl, by rw [List.length_map, sizeLine_eq]; omega, ?_⟩
            walk_at "w"
            refine ⟨n', hn', kept.erase e, del ++ [e], _, _, ev', rfl, ?_⟩
            rw [hi3, List.map_append]
            rfl
          · have c2 := of_decide_eq_false c2
            obtain ⟨e1, _⟩ := ev.done inv.ref c c2
            walk_at "w"
            refine ⟨⟨2, _, rfl⟩, ?_⟩
            walk_at "w"
            refine ⟨2, _, rfl, by rw [List.length_map, sizeLine_eq]; omega, ?_⟩
            walk_at "w"
            refine ⟨_, _, _, rfl, ?_⟩
            rw [e1, List.map_append]
            rfl
      · rintro Δ' st' ⟨v9, v10, v11, rfl, rfl⟩
        rw [show sz.foldl (dkStep sz t m) ⟨[], [], []⟩ = diskOf sz t m from rfl]
        have nea : pk ≠ pd := fun z => hpd (by rw [← z]; exact List.mem_cons_self)
        have neb : pk ≠ pr := fun z => hpr (by rw [← z]; exact List.mem_cons_of_mem _ List.mem_cons_self)
        have nec : pd ≠ pr := fun z => hpr (by rw [← z]; exact List.mem_cons_self)
        have hd0 : pd ∉ keys st := fun z => hpd (List.mem_cons_of_mem _ z)
        have hr0 : pr ∉ keys st := fun z => hpr (List.mem_cons_of_mem _ (List.mem_cons_of_mem _ z))
        walk_at "w"
        refine ⟨.dat (namesD (diskOf sz t m).kept), _, .pub (j := 2) rfl (.lst (SP.allD_of _ _)) (fun z => ?_) (.cons₂ _ (.cons₂ _ (.cons _ (List.Sublist.refl _)))), ?_⟩
        · rcases List.mem_cons.mp z with z | z
          · exact neb z
          · rcases List.mem_cons.mp z with z | z
            · exact nea z
            · exact hpk z
        walk_at "w"
        refine ⟨.dat (namesD (diskOf sz t m).del), _, .pub (j := 1) rfl (.lst (SP.allD_of _ _)) (fun z => ?_) (.cons₂ _ (.cons _ (List.Sublist.refl _))), ?_⟩
        · rcases List.mem_cons.mp z with z | z
          · exact nec z
          · exact hd0 z
        walk_at "w"
        refine ⟨.dat (namesD (diskOf sz t m).ref), st, .pub (j := 0) rfl (.lst (SP.allD_of _ _)) hr0 (.cons _ (List.Sublist.refl _)), ?_⟩
        walk_at "w"
        refine ⟨by show 3 ≤ sizeLine; rw [sizeLine_eq]; decide, ?_⟩
        walk_at "f"
        exact k
    · walk_at "w"
      exact Or.inr ⟨b, l, d, rfl, hd, ⟨st, List.Sublist.refl _, k⟩⟩
    · walk_at "w"
      refine Or.inl (bl_at k0 rfl hb hl ⟨hk1, hk2⟩ ?_)
      walk_at "w"
      exact Or.inr ⟨d, rfl, hd, ⟨st, List.Sublist.refl _, k⟩⟩
theorem ok_least_disk (S : En K mg) : FnOk P w K mg base (L2.CX P w) 10 S.f_least_disk S.d_least_disk ["book", "listing", "receivers", "protected"] (lowF K (ctLeastDiskX ⟨S.C_Book, S.C_Rule, S.C_Listing, S.C_Sending⟩ S.C_InvalidNumber)) := by
  refine fn_low _ S.F_least_disk sc_least_disk (fun ss st ok ex h => ?_) ?_ (fun cdv A outer s H E hr tk po => (bcons (sset 4 sc_least_disk.nd (dcall (dds := []) (ok_recorded_minutes S) (hr.mono (by decide)) S.g_recorded_minutes S.F_recorded_minutes.kp S.b_recorded_minutes .nil (fun _ => .nil) tk (acons (dv 0) (acons (dv 1) (acons (dv 2) anil)))))
  (bcons (sset 5 sc_least_disk.nd (dct (call_listR rfl) lc_listK S.n_list PyProof.Rows.boot_list (acons (dv 4) anil)))
  (bcons (ssetLc 6 [("at", 7), ("name", 8)] sc_least_disk.nd (iE S.n_enumerate (acons (dv 5) anil)) (blkOk_by (N := ["book", "listing", "receivers", "protected", "sizes", "names", "needed", "at", "name", "least"]) (sc := defScope s_least_disk) (by decide +kernel)) (fun _ _ _ _ _ => (gwtup 2 (gswcons (gwname 7 sc_least_disk.nd) (gswcons (gwname 8 sc_least_disk.nd) gswnil)))) (fun _ _ _ _ _ => tsnil) (fun _ _ _ _ _ => (dop op_add lr_add (ddget (hu1 hr) (dv 4) (dv 8)) (dcall (dds := []) (ok_minutes_of S) (hr.mono (by decide)) S.g_minutes_of S.F_minutes_of.kp S.b_minutes_of .nil (fun _ => .nil) takes0 (acons (dv 4) (acons (dcall (dds := []) (ok_among S) (hr.mono (by decide)) S.g_among S.F_among.kp S.b_among .nil (fun _ => .nil) takes0 (acons (dslL (dv 5) onone (osome (dv 7))) (acons (dv 3) anil))) anil))))))
  (bcons (sset 9 sc_least_disk.nd (dcb (cr_maxP rfl (hu65 hr)) lc_bestP S.n_max PyProof.Rows.boot_max (acons (dlst (acons di (astar (dv 6) anil))) anil)))
  (bone (sret (difx (tcmp op_le lr_le (dv 9) (dgl S.c_MOST_NEEDED S.r_MOST_NEEDED) (nomark _)) (dv 9) dn))))))))
  · rcases h with h | ⟨_, _, _, _, rfl, _⟩; exact bl_len (m := 2) (fun _ => rfl) h; rfl
  · rintro ss st ok ex (h | ⟨b, l, d, t, rfl, hd, k⟩)
    · unfold ctLeastDisk at h
      rw [ctBL_eq] at h
      obtain ⟨b, l, ⟨k0, t⟩, rfl, hb, hl, ⟨⟨hk1, hk2⟩, ht⟩, k⟩ := h
      have hok := sizes_ok hb hl k0
      have hok2 := hok
      obtain ⟨sz, hsz⟩ : ∃ sz, sz = sizesOf b l k0 := ⟨_, rfl⟩
      rw [← hsz] at hok
      dsimp only at k
      rw [← hsz] at k
      walk_at "w"
      refine Or.inl (bl_at k0 rfl hb hl ⟨hk1, hk2⟩ ?_)
      rw [← hsz]
      walk_at "w"
      have hks : ∀ n ∈ sz.map (·.1), isWord n = true ∧ ∃ v, look sz n = some v := fun n hn => by
        obtain ⟨x, hx, rfl⟩ := List.mem_map.mp hn
        exact ⟨hok.word x hx, x.2, hok.look hx⟩
      have hkl : (sz.map (·.1)).length ≤ 10 := by rw [List.length_map]; exact hok.len
      have hg : ∀ n ∈ sz.map (·.1), getD ((sz.map fun x => ((Sum.inr x.1 : Key), Dt.int x.2)).map fun kv => (kv.1, Sv.dat kv.2)) (.inr n) = some (.dat (.int ((look sz n).getD 0))) := fun n hn => by
        obtain ⟨_, v, hv⟩ := hks n hn
        rw [getD_dic Dt.int sz n, hv]
        rfl
      refine lc_pure (sz.map (·.1)).zipIdx (fun x => .tup [.int (x.2 : Nat), .str x.1]) (fun x => some (.int (need1 sz t x))) (by
        unfold enumS
        rw [show (List.map _ (List.map _ (List.map _ sz)) : List Dt) = (sz.map (·.1)).map Dt.str from by rw [List.map_map, List.map_map, List.map_map]; rfl, List.zipIdx_map, List.map_map]
        rfl) ?_ ?_
      · intro i x D acc hi hD J
        have hi2 := hi
        rw [List.getElem?_zipIdx] at hi2
        obtain ⟨n, hn, e⟩ := Option.map_eq_some_iff.mp hi2
        have hnm := List.mem_of_getElem? hn
        have e1 : x = (n, i) := by rw [← e, Nat.zero_add]
        subst e1
        walk_at "w"
        refine ⟨rfl, ?_⟩
        walk_at "ss"
        refine ⟨.inr n, _, rfl, hg n hnm, ?_⟩
        walk_at "w"
        refine ⟨((sz.map (·.1)).take i).map Dt.str, ?_, ?_⟩
        · rw [show (List.map Sv.dat (List.map _ (List.map _ (List.map _ sz))) : List Sv) = (sz.map (·.1)).map fun n => Sv.dat (.str n) from by rw [List.map_map, List.map_map, List.map_map, List.map_map]; rfl]
          rw [show (some ((n, i).2 : Int) : Option Int) = some ((i : Nat) : Int) from rfl, cut_to _ i (by rw [List.length_map]; exact Nat.le_of_lt (List.getElem?_eq_some_iff.mp hn).1), ← List.map_take]
          exact SP.allD_of _ _
        walk_at "w"
        have htk : ∀ n ∈ (sz.map (·.1)).take i, n ∈ sz.map (·.1) := fun n hn => List.mem_of_mem_take hn
        refine ⟨(sz.map (·.1)).take i, t, _, rfl, Or.inl rfl, by rw [List.length_take]; omega, fun n hn => (hks n (htk n hn)).1, ht, ?_⟩
        walk_at "w"
        refine ⟨sz, ((sz.map (·.1)).take i).filter (isIn t), _, rfl, Or.inl rfl, Nat.le_trans (List.length_filter_le _ _) (by rw [List.length_take]; omega), fun n hn => (hks n (htk n (List.mem_filter.mp hn).1)).2, ?_⟩
        walk_at "w"
        exact lc_yes (by rw [List.length_zipIdx, sizeLine_eq]; omega) hi J rfl
      rw [fm_some]
      simp only [List.set_cons_succ, List.set_cons_zero]
      walk_at "w"
      have hL : (Sv.dat (Dt.int 1) :: (List.map Sv.dat (List.map (fun x => Dt.int (need1 sz t x)) (sz.map (·.1)).zipIdx) ++ [])) = (Dt.int 1 :: (needs sz t).map Dt.int).map Sv.dat := by
        rw [List.append_nil, List.map_cons]
        unfold needs
        rw [List.map_map (f := need1 sz t)]
        rfl
      rw [hL]
      refine ⟨by rw [List.length_map, List.length_cons, List.length_map, sizeLine_eq]; unfold needs; rw [List.length_map, List.length_zipIdx]; omega, ?_⟩
      dsimp only
      rw [allD_map]
      walk_at "w"
      refine ⟨Int, 1, needs sz t, .int, .int, ?_, fun i => .int i, ints_alike _, Nat.le_trans (Nat.le_of_eq (PySem.W.depth_ints _)) (by decide), fun z hr hz => ?_⟩
      · rw [List.map_cons, List.map_cons, List.map_map]
        rfl
      rw [PySem.W.maxD_ints] at hz
      have hz : z = (needs sz t).foldl max 1 := by cases hz; rfl
      have hlo : leastOf sz t = if z ≤ 100000 then some z else none := by unfold leastOf; rw [hz]
      walk_at "w"
      refine ⟨fun c => ?_, fun c => ?_⟩
      · rw [hlo, if_pos (of_decide_eq_true c)] at k
        walk_at "f"
        exact k
      · rw [hlo, if_neg (of_decide_eq_false c)] at k
        walk_at "f"
        exact k
    · walk_at "w"
      exact Or.inr ⟨b, l, d, rfl, hd, ⟨st, List.Sublist.refl _, k⟩⟩
theorem ok_wrong_part_books (S : En K mg) : FnOk P w K mg base (L2.CX P w) 2 S.f_wrong_part_books S.d_wrong_part_books ["show", "first", "last", "priority", "before", "after"] (lowF K ctWrongR) := by
  refine fn_low _ S.F_wrong_part_books sc_wrong_part_books (fun ss st ok ex h => ?_) ?_ (fun cdv A outer s H E hr tk po => (bcons (sif (tnot (tval (dcall (dds := []) (ok_is_word S) (hr.mono (by decide)) S.g_is_word S.F_is_word.kp S.b_is_word .nil (fun _ => .nil) tk (acons (dv 0) anil))))
   (bone (sret ds)) bnil)
  (bcons (sif (tnot (tval (dcall (dds := []) (ok_is_number S) (hr.mono (by decide)) S.g_is_number S.F_is_number.kp S.b_is_number .nil (fun _ => .nil) tk (acons (dv 1) (acons di (acons (dgl S.c_GREATEST_EPISODE S.r_GREATEST_EPISODE) anil))))))
   (bone (sret ds)) bnil)
  (bcons (sif (tnot (tval (dcall (dds := []) (ok_is_number S) (hr.mono (by decide)) S.g_is_number S.F_is_number.kp S.b_is_number .nil (fun _ => .nil) tk (acons (dv 2) (acons (dv 1) (acons (dgl S.c_GREATEST_EPISODE S.r_GREATEST_EPISODE) anil))))))
   (bone (sret ds)) bnil)
  (bcons (sif (tnot (tval (dcall (dds := []) (ok_is_number S) (hr.mono (by decide)) S.g_is_number S.F_is_number.kp S.b_is_number .nil (fun _ => .nil) tk (acons (dv 3) (acons di (acons (dgl S.c_GREATEST_PRIORITY S.r_GREATEST_PRIORITY) anil))))))
   (bone (sret ds)) bnil)
  (bcons (sif (tnot (tval (dcall (dds := []) (ok_is_number S) (hr.mono (by decide)) S.g_is_number S.F_is_number.kp S.b_is_number .nil (fun _ => .nil) tk (acons (dv 4) (acons di (acons (dgl S.c_MOST_PADDING S.r_MOST_PADDING) anil))))))
   (bone (sret ds)) bnil)
  (bcons (sif (tnot (tval (dcall (dds := []) (ok_is_number S) (hr.mono (by decide)) S.g_is_number S.F_is_number.kp S.b_is_number .nil (fun _ => .nil) tk (acons (dv 5) (acons di (acons (dgl S.c_MOST_PADDING S.r_MOST_PADDING) anil))))))
   (bone (sret ds)) bnil)
  (bone (sret dn)))))))))
  · (repeat (first | (obtain ⟨rfl, _⟩ := h; rfl) | (obtain ⟨_, h⟩ := h)))
  · rintro ss st ok ex ⟨c, s, e, b, n, l, rfl, hc, hs, he, hb, hn, hl, k⟩
    unfold wrongR at k
    walk_at "w"
    refine ⟨c, rfl, hc, ?_⟩
    cases h1 : wordD c with
    | false => walk_at "d"; walk_at "f"; rw [h1, cond_false] at k; exact k
    | true =>
    rw [h1, cond_true] at k
    walk_at "d"; walk_at "w"
    refine ⟨s, _, _, rfl, hs, ?_⟩
    cases h3 : isNum s 1 999 with
    | false => walk_at "d"; walk_at "f"; rw [h3, cond_false] at k; exact k
    | true =>
    rw [h3, cond_true] at k
    obtain ⟨s, rfl, -, -⟩ := isNum_int h3
    walk_at "d"; walk_at "w"
    refine ⟨e, _, _, rfl, he, ?_⟩
    dsimp only [inI] at k
    cases h2 : isNum e s 999 with
    | false => walk_at "d"; walk_at "f"; rw [h2, cond_false] at k; exact k
    | true =>
    rw [h2, cond_true] at k
    walk_at "d"; walk_at "w"
    refine ⟨b, _, _, rfl, hb, ?_⟩
    cases h4 : isNum b 1 9 with
    | false => walk_at "d"; walk_at "f"; rw [h4, cond_false] at k; exact k
    | true =>
    rw [h4, cond_true] at k
    walk_at "d"; walk_at "w"
    refine ⟨n, _, _, rfl, hn, ?_⟩
    cases h5 : isNum n 0 60 with
    | false => walk_at "d"; walk_at "f"; rw [h5, cond_false] at k; exact k
    | true =>
    rw [h5, cond_true] at k
    walk_at "d"; walk_at "w"
    refine ⟨l, _, _, rfl, hl, ?_⟩
    cases h6 : isNum l 0 60 with
    | false => walk_at "d"; walk_at "f"; rw [h6, cond_false] at k; exact k
    | true =>
    rw [h6, cond_true] at k
    walk_at "d"; walk_at "f"; exact k
theorem ok_Rule_init (S : En K mg) : FnOk P w K mg base (L2.CX P w) 3 S.f_Rule_init S.d_Rule_init ["self", "show", "first", "last", "priority", "before", "after"] (lowF K (ctInitR S.C_Rule S.C_InvalidRule)) := by
  refine fn_lowD _ S.F_Rule_init sc_Rule_init (fun ss st ok ex h => ?_) ?_ (fun cdv A outer s H E hr tk po => (bcons (sset 7 sc_Rule_init.nd (dcall (dds := []) (ok_wrong_part_books S) (hr.mono (by decide)) S.g_wrong_part_books S.F_wrong_part_books.kp S.b_wrong_part_books .nil (fun _ => .nil) tk (acons (dv 1) (acons (dv 2) (acons (dv 3) (acons (dv 4) (acons (dv 5) (acons (dv 6) anil))))))))
  (bcons (sif (tnotN (dv 7))
   (bone (sraise1 S.T_InvalidRule S.i_InvalidRule S.t_InvalidRule (ok_InvalidRule S) hr S.b_InvalidRule_init S.g_InvalidRule tk (acons (dv 7) anil))) bnil)
  (bcons (ssetF K (dv 1) (dv 0))
  (bcons (ssetF K (dv 2) (dv 0))
  (bcons (ssetF K (dv 3) (dv 0))
  (bcons (ssetF K (dv 4) (dv 0))
  (bcons (ssetF K (dv 5) (dv 0))
  (bone (ssetF K (dv 6) (dv 0)))))))))))
  · (repeat (first | (obtain ⟨rfl, _⟩ := h; rfl) | (obtain ⟨_, h⟩ := h)))
  · rintro ss st ok ex ⟨p, st0, a, b, c, d, e, g, rfl, rfl, ha, hb, hc, hd, he, hg, hx, hk⟩
    walk_at "w"
    refine ⟨a, b, c, d, e, g, rfl, ha, hb, hc, hd, he, hg, ?_⟩
    cases hw : wrongR a b c d e g with
    | some z =>
      walk_at "d"
      walk_at "w"
      exact ⟨st0, .cons _ (List.Sublist.refl _), hx z hw⟩
    | none =>
      walk_at "d"
      walk_at "w"
      refine ⟨0, _, _, _, rfl, S.cl_Rule, S.na_Rule_show, (by show (0 : Nat) < 1000; decide), rfl, ?_⟩
      walk_at "w"
      refine ⟨0, _, _, _, rfl, S.cl_Rule, S.na_Rule_first, (by show (1 : Nat) < 1000; decide), rfl, ?_⟩
      walk_at "w"
      refine ⟨0, _, _, _, rfl, S.cl_Rule, S.na_Rule_last, (by show (2 : Nat) < 1000; decide), rfl, ?_⟩
      walk_at "w"
      refine ⟨0, _, _, _, rfl, S.cl_Rule, S.na_Rule_priority, (by show (3 : Nat) < 1000; decide), rfl, ?_⟩
      walk_at "w"
      refine ⟨0, _, _, _, rfl, S.cl_Rule, S.na_Rule_before, (by show (4 : Nat) < 1000; decide), rfl, ?_⟩
      walk_at "w"
      refine ⟨0, _, _, _, rfl, S.cl_Rule, S.na_Rule_after, (by show (5 : Nat) < 1000; decide), rfl, ?_⟩
      walk_at "w"
      exact ⟨_, List.Sublist.refl _, hk hw⟩
theorem ok_Book_init (S : En K mg) : FnOk P w K mg base (L2.CX P w) 1 S.f_Book_init S.d_Book_init ["self", "rules", "seen"] (lowF K (ctBook ⟨S.C_Book, S.C_Rule, S.C_Listing, S.C_Sending⟩)) := by
  refine fn_lowD _ S.F_Book_init sc_Book_init (fun ss st ok ex h => ?_) ?_ (fun cdv A outer s H E hr tk po => (bcons (sif (tcmp op_gt lr_gt (dcb call_len_seq lc_lenT S.n_len PySem.boot_len (acons (dv 1) anil)) (dgl S.c_MOST_RULES S.r_MOST_RULES) (nomark _))
   (bone (sraise0 PySem.F.excBase_ValueError S.x_InvalidBook S.g_InvalidBook S.kc_InvalidBook (raises_own S.r_InvalidBook S.ty_InvalidBook) tk)) bnil)
  (bcons (ssetF K (dct call_tuple_of lc_tup S.n_tuple PyProof.Rows.boot_tuple (acons (dv 1) anil)) (dv 0))
  (bone (ssetF K (dct call_tuple_of lc_tup S.n_tuple PyProof.Rows.boot_tuple (acons (dv 2) anil)) (dv 0))))))
  · rw [ctBook_eq] at h; obtain ⟨_, _, _, _, rfl, _⟩ := h; rfl
  · intro ss st ok ex h
    rw [ctBook_eq] at h
    obtain ⟨q, st0, rs, es, rfl, rfl, hl, k⟩ := h
    walk_at "w"
    refine ⟨fun h => ?_, fun _ => ?_⟩
    · rw [List.length_map, List.length_map] at h
      have := of_decide_eq_true h
      omega
    walk_at "w"
    refine ⟨0, _, _, _, rfl, S.cl_Book, S.na_Book_rules, (by show (0 : Nat) < 1000; decide), rfl, ?_⟩
    walk_at "w"
    refine ⟨0, _, _, _, rfl, S.cl_Book, S.na_Book_seen, (by show (1 : Nat) < 1000; decide), rfl, ?_⟩
    walk_at "w"
    exact ⟨_, List.Sublist.refl _, k⟩
theorem ok_wrong_part_listings (S : En K mg) : FnOk P w K mg base (L2.CX P w) 2 S.f_wrong_part_listings S.d_wrong_part_listings ["channel", "show", "episode", "begin", "end", "late"] (lowF K ctWrongS) := by
  refine fn_low _ S.F_wrong_part_listings sc_wrong_part_listings (fun ss st ok ex h => ?_) ?_ (fun cdv A outer s H E hr tk po => (bcons (sif (tnot (tval (dcall (dds := []) (ok_is_word S) (hr.mono (by decide)) S.g_is_word S.F_is_word.kp S.b_is_word .nil (fun _ => .nil) tk (acons (dv 0) anil))))
   (bone (sret ds)) bnil)
  (bcons (sif (tnot (tval (dcall (dds := []) (ok_is_word S) (hr.mono (by decide)) S.g_is_word S.F_is_word.kp S.b_is_word .nil (fun _ => .nil) tk (acons (dv 1) anil))))
   (bone (sret ds)) bnil)
  (bcons (sif (tnot (tval (dcall (dds := []) (ok_is_number S) (hr.mono (by decide)) S.g_is_number S.F_is_number.kp S.b_is_number .nil (fun _ => .nil) tk (acons (dv 2) (acons di (acons (dgl S.c_GREATEST_EPISODE S.r_GREATEST_EPISODE) anil))))))
   (bone (sret ds)) bnil)
  (bcons (sif (tnot (tval (dcall (dds := []) (ok_is_number S) (hr.mono (by decide)) S.g_is_number S.F_is_number.kp S.b_is_number .nil (fun _ => .nil) tk (acons (dv 3) (acons di (acons (dgl S.c_LATEST_BEGIN S.r_LATEST_BEGIN) anil))))))
   (bone (sret ds)) bnil)
  (bcons (sif (tnot (tval (dcall (dds := []) (ok_is_number S) (hr.mono (by decide)) S.g_is_number S.F_is_number.kp S.b_is_number .nil (fun _ => .nil) tk (acons (dv 4) (acons (dop op_add lr_add (dv 3) di) (acons (dgl S.c_LATEST_END S.r_LATEST_END) anil))))))
   (bone (sret ds)) bnil)
  (bcons (sif (tnot (tval (dcall (dds := []) (ok_is_number S) (hr.mono (by decide)) S.g_is_number S.F_is_number.kp S.b_is_number .nil (fun _ => .nil) tk (acons (dv 5) (acons di (acons (dgl S.c_MOST_LATE S.r_MOST_LATE) anil))))))
   (bone (sret ds)) bnil)
  (bone (sret dn)))))))))
  · (repeat (first | (obtain ⟨rfl, _⟩ := h; rfl) | (obtain ⟨_, h⟩ := h)))
  · rintro ss st ok ex ⟨c, s, e, b, n, l, rfl, hc, hs, he, hb, hn, hl, k⟩
    unfold wrongS at k
    walk_at "w"
    refine ⟨c, rfl, hc, ?_⟩
    cases h1 : wordD c with
    | false => walk_at "d"; walk_at "f"; rw [h1, cond_false] at k; exact k
    | true =>
    rw [h1, cond_true] at k
    walk_at "d"; walk_at "w"
    refine ⟨s, rfl, hs, ?_⟩
    cases h2 : wordD s with
    | false => walk_at "d"; walk_at "f"; rw [h2, cond_false] at k; exact k
    | true =>
    rw [h2, cond_true] at k
    walk_at "d"; walk_at "w"
    refine ⟨e, _, _, rfl, he, ?_⟩
    cases h3 : isNum e 1 999 with
    | false => walk_at "d"; walk_at "f"; rw [h3, cond_false] at k; exact k
    | true =>
    rw [h3, cond_true] at k
    walk_at "d"; walk_at "w"
    refine ⟨b, _, _, rfl, hb, ?_⟩
    cases h4 : isNum b 0 1000000 with
    | false => walk_at "d"; walk_at "f"; rw [h4, cond_false] at k; exact k
    | true =>
    rw [h4, cond_true] at k
    obtain ⟨b, rfl, -, -⟩ := isNum_int h4
    walk_at "d"; walk_at "w"
    refine ⟨n, _, _, rfl, hn, ?_⟩
    dsimp only [inI] at k
    cases h5 : isNum n (b + 1) 1000600 with
    | false => walk_at "d"; walk_at "f"; rw [h5, cond_false] at k; exact k
    | true =>
    rw [h5, cond_true] at k
    walk_at "d"; walk_at "w"
    refine ⟨l, _, _, rfl, hl, ?_⟩
    cases h6 : isNum l 0 60 with
    | false => walk_at "d"; walk_at "f"; rw [h6, cond_false] at k; exact k
    | true =>
    rw [h6, cond_true] at k
    walk_at "d"; walk_at "f"; exact k
theorem ok_Sending_init (S : En K mg) : FnOk P w K mg base (L2.CX P w) 3 S.f_Sending_init S.d_Sending_init ["self", "channel", "show", "episode", "begin", "end", "late"] (lowF K (ctInitS S.C_Sending S.C_InvalidSending)) := by
  refine fn_lowD _ S.F_Sending_init sc_Sending_init (fun ss st ok ex h => ?_) ?_ (fun cdv A outer s H E hr tk po => (bcons (sset 7 sc_Sending_init.nd (dcall (dds := []) (ok_wrong_part_listings S) (hr.mono (by decide)) S.g_wrong_part_listings S.F_wrong_part_listings.kp S.b_wrong_part_listings .nil (fun _ => .nil) tk (acons (dv 1) (acons (dv 2) (acons (dv 3) (acons (dv 4) (acons (dv 5) (acons (dv 6) anil))))))))
  (bcons (sif (tnotN (dv 7))
   (bone (sraise1 S.T_InvalidSending S.i_InvalidSending S.t_InvalidSending (ok_InvalidSending S) hr S.b_InvalidSending_init S.g_InvalidSending tk (acons (dv 7) anil))) bnil)
  (bcons (ssetF K (dv 1) (dv 0))
  (bcons (ssetF K (dv 2) (dv 0))
  (bcons (ssetF K (dv 3) (dv 0))
  (bcons (ssetF K (dv 4) (dv 0))
  (bcons (ssetF K (dv 5) (dv 0))
  (bone (ssetF K (dv 6) (dv 0)))))))))))
  · (repeat (first | (obtain ⟨rfl, _⟩ := h; rfl) | (obtain ⟨_, h⟩ := h)))
  · rintro ss st ok ex ⟨p, st0, a, b, c, d, e, g, rfl, rfl, ha, hb, hc, hd, he, hg, hx, hk⟩
    walk_at "w"
    refine ⟨a, b, c, d, e, g, rfl, ha, hb, hc, hd, he, hg, ?_⟩
    cases hw : wrongS a b c d e g with
    | some z =>
      walk_at "d"
      walk_at "w"
      exact ⟨st0, .cons _ (List.Sublist.refl _), hx z hw⟩
    | none =>
      walk_at "d"
      walk_at "w"
      refine ⟨0, _, _, _, rfl, S.cl_Sending, S.na_Sending_channel, (by show (0 : Nat) < 1000; decide), rfl, ?_⟩
      walk_at "w"
      refine ⟨0, _, _, _, rfl, S.cl_Sending, S.na_Sending_show, (by show (1 : Nat) < 1000; decide), rfl, ?_⟩
      walk_at "w"
      refine ⟨0, _, _, _, rfl, S.cl_Sending, S.na_Sending_episode, (by show (2 : Nat) < 1000; decide), rfl, ?_⟩
      walk_at "w"
      refine ⟨0, _, _, _, rfl, S.cl_Sending, S.na_Sending_begin, (by show (3 : Nat) < 1000; decide), rfl, ?_⟩
      walk_at "w"
      refine ⟨0, _, _, _, rfl, S.cl_Sending, S.na_Sending_end, (by show (4 : Nat) < 1000; decide), rfl, ?_⟩
      walk_at "w"
      refine ⟨0, _, _, _, rfl, S.cl_Sending, S.na_Sending_late, (by show (5 : Nat) < 1000; decide), rfl, ?_⟩
      walk_at "w"
      exact ⟨_, List.Sublist.refl _, hk hw⟩
theorem ok_Listing_init (S : En K mg) : FnOk P w K mg base (L2.CX P w) 3 S.f_Listing_init S.d_Listing_init ["self", "sendings"] (lowF K (ctListing ⟨S.C_Book, S.C_Rule, S.C_Listing, S.C_Sending⟩)) := by
  refine fn_low _ S.F_Listing_init sc_Listing_init (fun ss st ok ex h => ?_) ?_ (fun cdv A outer s H E hr tk po => (bcons (sset 2 sc_Listing_init.nd (dcb (cr_sortP (hu65 hr)) lc_sortP S.n_sorted PyProof.Rows.boot_sorted (acons (dlcK [("name", 3)] sc_Listing_init.nd (dv 1) (blkOk_by (N := ["self", "sendings", "wrong", "name", "names"]) (sc := defScope s_Listing_init) (by decide +kernel)) (fun _ _ _ _ _ => (gwname 3 sc_Listing_init.nd)) (fun _ _ _ _ _ => (tsone (tnot (tval (dcall (dds := []) (ok_is_word S) (hr.mono (by decide)) S.g_is_word S.F_is_word.kp S.b_is_word .nil (fun _ => .nil) takes0 (acons (dv 3) anil)))))) (fun _ _ _ _ _ => (dv 3))) anil)))
  (bcons (sif (ttruL (dv 2))
   (bone (sraise1 S.T_InvalidListing S.i_InvalidListing S.t_InvalidListing (ok_InvalidListing S) hr S.b_InvalidListing_init S.g_InvalidListing tk (acons (dix ix_list lr_ixL (dv 2) di) anil))) bnil)
  (bcons (sset 4 sc_Listing_init.nd (dcb (call_sortedD rfl) lc_sortK S.n_sorted PyProof.Rows.boot_sorted (acons (dv 1) anil)))
  (bcons (sif (tcmp op_gt lr_gt (dcb call_len_seq lc_lenL S.n_len PySem.boot_len (acons (dv 4) anil)) (dgl S.c_MOST_SENDINGS S.r_MOST_SENDINGS) (nomark _))
   (bone (sraise1 S.T_InvalidListing S.i_InvalidListing S.t_InvalidListing (ok_InvalidListing S) hr S.b_InvalidListing_init S.g_InvalidListing tk (acons (dix ix_list lr_ixL (dv 4) (dgl S.c_MOST_SENDINGS S.r_MOST_SENDINGS)) anil))) bnil)
  (bone (ssetF K (ddc [("name", 3)] sc_Listing_init.nd (iL (dv 4)) (blkOk_by (N := ["self", "sendings", "wrong", "name", "names"]) (sc := defScope s_Listing_init) (by decide +kernel)) (fun _ _ _ _ _ => (gwname 3 sc_Listing_init.nd)) (fun _ _ _ _ _ => tsnil) (fun _ _ _ _ _ => (dv 3)) (fun _ _ _ _ _ => (ddget (hu1 hr) (dv 1) (dv 3)))) (dv 0))))))))
  · rw [ctListing_eq] at h; obtain ⟨_, _, _, rfl, _⟩ := h; rfl
  · intro ss st ok ex h
    rw [ctListing_eq] at h
    obtain ⟨q, st0, l, rfl, rfl, hl, hn, hw, k⟩ := h
    have hnd : (l.map (·.1)).Nodup := hn.imp fun {a b} k e => by subst e; exact absurd k (List.lt_irrefl _)
    walk_at "w"
    refine lc_pure l (fun x => .str x.1) (fun _ => none) (by unfold keysD; rw [List.map_map]; rfl) ?_ ?_
    · intro i x D acc hx hD J
      have hwx := hw x (List.mem_of_getElem? hx)
      walk_at "w"
      refine ⟨.str x.1, rfl, word_len hwx, ?_⟩
      rw [show wordD (.str x.1) = true from hwx]
      walk_at "ss"
      exact lc_no hx J rfl
    rw [show l.filterMap (fun _ => (none : Option Dt)) = [] from by simp]
    walk_at "w"
    refine ⟨Str, [], .str, .str, rfl, fun b => .str b, fun d hd => (by cases hd), .inl fun d hd => (by cases hd), fun b hb => (by cases hb), ?_⟩
    rw [List.mergeSort_nil]
    walk_at "w"
    refine ⟨fun h => absurd h Bool.false_ne_true, fun _ => ?_⟩
    walk_at "w"
    refine ⟨l.map (·.1), by rw [List.map_map, List.map_map, List.map_map]; rfl, by rw [List.length_map]; exact Nat.lt_of_le_of_lt hl (by decide), fun ys hy hs => ?_⟩
    obtain rfl := sorted_is hy hs
    rw [sortN_same hn]
    walk_at "w"
    refine ⟨fun h => ?_, fun _ => ?_⟩
    · rw [List.length_map, List.length_map, List.length_map] at h
      have := of_decide_eq_true h
      omega
    walk_at "w"
    refine dc_pure l (fun x => .str x.1) (fun x => some ((Sum.inr x.1 : Key), x.2.d S.C_Sending)) (by rw [List.map_map, List.map_map]; rfl) ?_ ?_
    · intro i x D acc hx hD J
      walk_at "ss"
      refine ⟨.inr x.1, .dat (x.2.d S.C_Sending), rfl, by rw [getD_dic (Snd.d S.C_Sending) l x.1, look_mem hnd (List.mem_of_getElem? hx)]; rfl, ?_⟩
      exact dc_yes (Nat.le_trans hl (by decide)) (by rw [fm_some, List.map_map]; exact nodup_of hnd) hx J rfl rfl
    rw [fm_some]
    walk_at "w"
    refine ⟨0, _, _, _, rfl, S.cl_Listing, S.na_Listing_sendings, (by show (0 : Nat) < 1000; decide), rfl, ?_⟩
    walk_at "w"
    exact ⟨_, List.Sublist.refl _, k⟩
theorem ok_law_mix (S : En K mg) : FnOk P w K mg base (L2.CX P w) 1 S.f_law_mix S.d_law_mix ["_law_script", "_law_seed"] (lowF K ctMix) := by
  refine fn_low _ S.F_law_mix sc_law_mix (fun ss st ok ex h => ?_) ?_ (fun cdv A outer s H E hr tk po => (bcons (sset 2 sc_law_mix.nd (dv 1))
  (bcons (sfor po (iL (dv 0)) (gname 3 sc_law_mix.nd)
   (bone (sset 2 sc_law_mix.nd (dop op_mod lr_mod (dct call_int1 lc_int S.n_int PyProof.Rows.boot_int (acons (dop op_add lr_add (dop op_add lr_add (dop op_mul lr_mul (dv 2) di) (dop op_mod lr_mod (dct call_int1 lc_int S.n_int PyProof.Rows.boot_int (acons (dv 3) anil)) di)) di) anil)) di))))
  (bone (sret (dlstO (acons (dv 2) (acons (dct call_list_of lc_listLO S.n_list PyProof.Rows.boot_list (acons (dv 0) anil)) (acons di anil)))))))))
  · (repeat (first | (obtain ⟨rfl, _⟩ := h; rfl) | (obtain ⟨_, h⟩ := h)))
  · rintro ss st ok ex ⟨ns, seed, rfl, hl, k⟩
    walk_at "w"
    refine loop_fold ns Dt.int (fun (_ : Unit) _ => ()) () (fun _ Δ' st' => ∃ a v, Δ' = [.dat (.fls (ns.map Dt.int)), dI seed, dI a, v] ∧ st' = st) (by rw [List.map_map]; rfl) ⟨seed, .un, rfl, rfl⟩ ?_ ?_
    · rintro pre z post s Δ' st' - - ⟨a, v, rfl, rfl⟩
      walk_at "w"
      refine ⟨.inr (by decide), ?_⟩
      walk_at "w"
      refine ⟨by show (0 : Int) < 2147483629; decide, ?_⟩
      walk_at "w"
      refine ⟨by show (0 : Int) < 2147483647; decide, ?_⟩
      exact ⟨_, _, rfl, rfl⟩
    · rintro Δ' st' ⟨a, v, rfl, rfl⟩
      walk_at "w"
      intro q hq
      walk_at "w"
      refine ⟨by show 3 ≤ sizeLine; decide, ?_⟩
      walk_at "w"
      intro p hp
      walk_at "f"
      have hne : p ≠ q := fun z => hp (z ▸ List.mem_cons_self)
      have kk := k p q a hne (fun z => hp (List.mem_cons_of_mem _ z)) hq
      unfold obX at kk
      rw [List.map_map]
      exact kk
theorem ok_law_next (S : En K mg) : FnOk P w K mg base (L2.CX P w) 1 S.f_law_next S.d_law_next ["_law_h", "_law_limit"] (lowF K ctNext) := by
  refine fn_low _ S.F_law_next sc_law_next (fun ss st ok ex h => ?_) ?_ (fun cdv A outer s H E hr tk po => (bcons (sset 2 sc_law_next.nd (dix ix_list lr_ixL (dop op_cat lr_cat (dix ix_list lr_ixL (dv 0) di) (dlst (acons di anil))) (dop op_mod lr_mod (dct call_int1 lc_int S.n_int PyProof.Rows.boot_int (acons (dix ix_list lr_ixL (dv 0) di) anil)) (dcb (call_max2 rfl) lc_max2 S.n_max PyProof.Rows.boot_max (acons di (acons (dcb call_len_seq lc_lenL S.n_len PySem.boot_len (acons (dix ix_list lr_ixL (dv 0) di) anil)) anil))))))
  (bcons (sif (tcmp op_ge lr_ge (dv 2) (dop op_pow lr_pow di di) (nomark _))
   (bcons (ssetL (dop op_fdiv lr_div (dv 2) (dv 1)) (dix ix_list lr_ixL (dv 0) di) (dop op_mod lr_mod (dct call_int1 lc_int S.n_int PyProof.Rows.boot_int (acons (dix ix_list lr_ixL (dv 0) di) anil)) (dcb call_len_seq lc_lenL S.n_len PySem.boot_len (acons (dix ix_list lr_ixL (dv 0) di) anil))))
  (bone (sret (dop op_mod lr_mod (dct call_int1 lc_int S.n_int PyProof.Rows.boot_int (acons (dv 2) anil)) (dv 1))))) bnil)
  (bcons (ssetL (dop op_mod lr_mod (dct call_int1 lc_int S.n_int PyProof.Rows.boot_int (acons (dop op_add lr_add (dop op_add lr_add (dop op_mul lr_mul (dix ix_list lr_ixL (dv 0) di) di) (dop op_mul lr_mul (dv 2) di)) di) anil)) di) (dv 0) di)
  (bcons (ssetL (dop op_add lr_add (dix ix_list lr_ixL (dv 0) di) di) (dv 0) di)
  (bone (sret (dop op_mod lr_mod (dct call_int1 lc_int S.n_int PyProof.Rows.boot_int (acons (dop op_fdiv lr_div (dix ix_list lr_ixL (dv 0) di) di) anil)) (dv 1)))))))))
  · exact next_len h
  · rintro ss st ok ex h
    rw [ctNext_eq] at h
    obtain ⟨p, q, a, i, xs, lim, j1, j2, rfl, l0, l1, jj, hp, hq, hx, k⟩ := h
    walk_at "dd"
    refine ⟨by simp [sizeLine_eq]; omega, _, .app (.mapf _ _) (.cons .nil), ?_⟩
    walk_at "dd"
    walk_at "w"
    obtain ⟨m, em, m0, m1⟩ : ∃ m : Int, (if ((List.map dI xs).length : Int) > 1 then ((List.map dI xs).length : Int) else 1) = m ∧ 0 < m ∧ m ≤ xs.length + 1 ∧ (0 < xs.length → m = xs.length) := ⟨_, rfl, by split <;> omega, by simp only [List.length_map]; split <;> omega, fun h => by simp only [List.length_map]; split <;> omega⟩
    rw [em]
    refine ⟨m0, ?_⟩
    walk_at "w"
    have mm0 := Int.emod_nonneg i (Int.ne_of_gt m0)
    have mm1 := Int.emod_lt_of_pos i m0
    obtain ⟨c, hc, hcell⟩ : ∃ c, atI (List.map Sv.dat (List.map Dt.int xs ++ [Dt.int 0])) (i % m) = some (dI c) ∧ (xs.length = 0 → c = 0) := by
      obtain ⟨y, h1, h2⟩ := atI_of (xs := List.map Sv.dat (List.map Dt.int xs ++ [Dt.int 0])) mm0 (by simp; omega)
      rw [h2]
      have h1' := h1
      simp only [List.map_append, List.map_map, List.map_cons, List.map_nil] at h1'
      by_cases hl : (i % m).toNat < xs.length
      · rw [List.getElem?_append_left (by simp; exact hl), List.getElem?_map, List.getElem?_eq_getElem hl] at h1'
        cases h1'
        exact ⟨_, rfl, fun z => by omega⟩
      · rw [List.getElem?_append_right (by simp; omega)] at h1'
        have : (i % m).toNat - (List.map (Sv.dat ∘ Dt.int) xs).length = 0 := by simp; omega
        rw [this] at h1'
        cases h1'
        exact ⟨_, rfl, fun _ => rfl⟩
    refine ⟨_, hc, ?_⟩
    walk_at "w"
    refine ⟨by unfold CPow; decide, ?_⟩
    walk_at "w"
    refine ⟨fun hb => ?_, fun hb => ?_⟩
    · walk_at "w"
      refine ⟨⟨l0, l1⟩, ?_⟩
      walk_at "dd"
      walk_at "w"
      have hpos : 0 < xs.length := by
        have hge : (10 : Int) ^ ((18 : Int).toNat) ≤ c := of_decide_eq_true hb
        have e18 : (10 : Int) ^ ((18 : Int).toNat) = 1000000000000000000 := by decide
        by_cases z : xs.length = 0
        · have := hcell z
          omega
        · omega
      rw [List.length_map]
      have hL : (0 : Int) < (xs.length : Int) := by omega
      refine ⟨hL, ?_⟩
      walk_at "w"
      have b0 := Int.emod_nonneg i (Int.ne_of_gt hL)
      have b1 := Int.emod_lt_of_pos i hL
      refine ⟨_, _, (i % (xs.length : Int)).toNat, hq, by unfold ixN; rw [if_pos b0, if_pos (by simpa using b1)], ?_⟩
      walk_at "w"
      refine ⟨l0, ?_⟩
      walk_at "f"
      have kk := k (c % lim) a i (xs.set (i % (xs.length : Int)).toNat (c / lim)) (Int.emod_nonneg _ (Int.ne_of_gt l0)) (Int.emod_lt_of_pos _ l0) (by simp)
      rw [set_self hp] at kk
      unfold obX at kk
      rw [List.map_set] at kk
      exact kk
    · walk_at "w"
      refine ⟨_, _, hp, ?_⟩
      walk_at "dd"
      walk_at "w"
      refine ⟨.inr (by decide), ?_⟩
      walk_at "w"
      refine ⟨.inr (by decide), ?_⟩
      walk_at "w"
      refine ⟨by show (0 : Int) < 2147483647; decide, ?_⟩
      walk_at "w"
      refine ⟨_, _, 0, hp, rfl, ?_⟩
      walk_at "w"
      refine ⟨_, _, set_at hp, ?_⟩
      walk_at "dd"
      walk_at "w"
      refine ⟨_, _, 2, set_at hp, rfl, ?_⟩
      walk_at "w"
      refine ⟨_, _, set_at (set_at hp), ?_⟩
      walk_at "dd"
      walk_at "w"
      refine ⟨⟨by decide, by decide⟩, ?_⟩
      walk_at "w"
      refine ⟨l0, ?_⟩
      walk_at "f"
      have kk := k ((a * 48271 + c * 69621 + 11) % 2147483647 / 7 % lim) ((a * 48271 + c * 69621 + 11) % 2147483647) (i + 1) xs (Int.emod_nonneg _ (Int.ne_of_gt l0)) (Int.emod_lt_of_pos _ l0) rfl
      rw [set_self (by rw [List.getElem?_set_ne jj]; exact hq)] at kk
      rw [List.set_set]
      exact kk
theorem step_law_alike (S : En K mg) (n : Nat) (ih : FnOk P w K mg base (L2.CX P w) n S.f_law_alike S.d_law_alike ["_law_found", "_law_due"] (lowF K (ctAlike n))) : FnOk P w K mg base (L2.CX P w) (n + 1) S.f_law_alike S.d_law_alike ["_law_found", "_law_due"] (lowF K (ctAlike (n + 1))) := by
  refine fn_low _ S.F_law_alike sc_law_alike (fun ss st ok ex h => ?_) ?_ (fun cdv A outer s H E hr tk po => (bcons (sif (tval (disi K S.n_isinstance S.n_dict kb_dict (dv 1)))
   (bone sdead) bnil)
  (bcons (sif (tval (disi2 K S.n_isinstance S.n_tuple S.n_list kb_tuple kb_list (dv 1)))
   (bcons (sif (tw (wor (tnot (tval (disi2 K S.n_isinstance S.n_tuple S.n_list kb_tuple kb_list (dv 0)))) (wor1 (tcmp op_ne lr_neS (disi K S.n_isinstance S.n_list kb_list (dv 0)) (disi K S.n_isinstance S.n_list kb_list (dv 1)) (nomark _)))))
   (bone (sret db)) bnil)
  (bcons (sif (tcmp op_ne lr_neS (deither (dcb call_len_seq lc_lenL S.n_len PySem.boot_len (acons (dv 0) anil)) (dcb call_len_seq lc_lenT S.n_len PySem.boot_len (acons (dv 0) anil))) (deither (dcb call_len_seq lc_lenL S.n_len PySem.boot_len (acons (dv 1) anil)) (dcb call_len_seq lc_lenT S.n_len PySem.boot_len (acons (dv 1) anil))) (nomark _))
   (bone (sret db)) bnil)
  (bone (sret (dcmp (op_eqD (hu64 hr)) lr_eqP (dlc [("_law_k", 2)] sc_law_alike.nd (iR S.n_range (acons (deither (dcb call_len_seq lc_lenL S.n_len PySem.boot_len (acons (dv 1) anil)) (dcb call_len_seq lc_lenT S.n_len PySem.boot_len (acons (dv 1) anil))) anil)) (blkOk_by (N := ["_law_found", "_law_due", "_law_k"]) (sc := defScope s_law_alike) (by decide +kernel)) (fun _ _ _ _ _ => (gwname 2 sc_law_alike.nd)) (fun _ _ _ _ _ => (tsone (tnot (tval (dcall (dds := []) ih hr S.g_law_alike S.F_law_alike.kp S.b_law_alike .nil (fun _ => .nil) takes0 (acons (deither (dix ix_list lr_ixL (dv 0) (dv 2)) (dix ix_tup lr_ixT (dv 0) (dv 2))) (acons (deither (dix ix_list lr_ixL (dv 1) (dv 2)) (dix ix_tup lr_ixT (dv 1) (dv 2))) anil))))))) (fun _ _ _ _ _ => (dv 2))) (dlst anil) (nomark _)))))) bnil)
  (bcons (sif (tw (wor (tisN (dv 1)) (wor1 (tval (disi K S.n_isinstance S.n_str kb_str (dv 1))))))
   (bone (sret (dand (dcmp op_eq lr_eqS (dv 0) (dv 1) (nomark _)) (done (dcmp op_eq lr_eqS (disi K S.n_isinstance S.n_str kb_str (dv 0)) (disi K S.n_isinstance S.n_str kb_str (dv 1)) (nomark _)))))) bnil)
  (bone (sret (dand (disi K S.n_isinstance S.n_int kb_int (dv 0)) (dand (dcmp op_eq lr_eqS (disi K S.n_isinstance S.n_bool kb_bool (dv 0)) (disi K S.n_isinstance S.n_bool kb_bool (dv 1)) (nomark _)) (done (dcmp op_eq lr_eqS (dv 0) (dv 1) (nomark _)))))))))))
  · (repeat (first | (obtain ⟨rfl, _⟩ := h; rfl) | (obtain ⟨_, h⟩ := h)))
  · rintro ss st ok ex ⟨d, rfl, hd, k⟩
    cases hd with
    | non n =>
      walk_at "ss"
      exact ⟨_, _, .keep (List.Sublist.refl _), k⟩
    | bl n i =>
      walk_at "ss"
      exact ⟨_, _, .keep (List.Sublist.refl _), (decide_eq_true (rfl : i = i)).symm ▸ k⟩
    | int n i =>
      walk_at "ss"
      exact ⟨_, _, .keep (List.Sublist.refl _), (decide_eq_true (rfl : i = i)).symm ▸ k⟩
    | str n i =>
      walk_at "ss"
      exact ⟨_, _, .keep (List.Sublist.refl _), k⟩
    | lst h l =>
      rename_i ds
      walk_at "sl"
      have hn : ((ds.map Sv.dat).length : Int) = ds.length := by rw [List.length_map]
      have hz := sizeLine_eq
      refine ⟨by rw [hn]; omega, by rw [hn]; omega, ?_⟩
      walk_at "w"
      refine lc_pure (List.range ds.length) (fun (i : Nat) => .int (0 + (i : Int))) (fun _ => none) (by unfold rngS; rw [hn, Int.toNat_natCast]) ?_ ?_
      · intro i a D acc ha hD J
        have hi : a < ds.length := List.mem_range.mp (List.mem_of_getElem? ha)
        have hat : atI (ds.map Sv.dat) (0 + (a : Int)) = some (.dat ds[a]) := by
          refine atI_get (by omega) ?_
          have e : (0 + (a : Int)).toNat = a := by omega
          rw [e, List.getElem?_map, List.getElem?_eq_getElem hi]
          rfl
        walk_at "sl"
        refine ⟨_, hat, ?_⟩
        walk_at "sl"
        refine ⟨_, hat, ?_⟩
        walk_at "w"
        refine ⟨ds[a], rfl, h _ (List.getElem_mem hi), ?_⟩
        walk_at "sl"
        exact lc_no ha J rfl
      · walk_at "w"
        refine ⟨by decide, ?_⟩
        walk_at "w"
        have e0 : (List.range ds.length).filterMap (fun _ => (none : Option Dt)) = [] := by rw [List.filterMap_eq_nil_iff]; intros; rfl
        rw [e0]
        refine ⟨.list [], .list [], .lst .nil, .lst .nil, by decide, by decide, ?_⟩
        walk_at "f"
        exact k
    | tup h l =>
      rename_i ds
      walk_at "sr"
      have hn : ((ds.map Sv.dat).length : Int) = ds.length := by rw [List.length_map]
      have hz := sizeLine_eq
      refine ⟨by rw [hn]; omega, by rw [hn]; omega, ?_⟩
      walk_at "w"
      refine lc_pure (List.range ds.length) (fun (i : Nat) => .int (0 + (i : Int))) (fun _ => none) (by unfold rngS; rw [hn, Int.toNat_natCast]) ?_ ?_
      · intro i a D acc ha hD J
        have hi : a < ds.length := List.mem_range.mp (List.mem_of_getElem? ha)
        have hat : atI (ds.map Sv.dat) (0 + (a : Int)) = some (.dat ds[a]) := by
          refine atI_get (by omega) ?_
          have e : (0 + (a : Int)).toNat = a := by omega
          rw [e, List.getElem?_map, List.getElem?_eq_getElem hi]
          rfl
        walk_at "sr"
        refine ⟨_, hat, ?_⟩
        walk_at "sr"
        refine ⟨_, hat, ?_⟩
        walk_at "w"
        refine ⟨ds[a], rfl, h _ (List.getElem_mem hi), ?_⟩
        walk_at "sr"
        exact lc_no ha J rfl
      · walk_at "w"
        refine ⟨by decide, ?_⟩
        walk_at "w"
        have e0 : (List.range ds.length).filterMap (fun _ => (none : Option Dt)) = [] := by rw [List.filterMap_eq_nil_iff]; intros; rfl
        rw [e0]
        refine ⟨.list [], .list [], .lst .nil, .lst .nil, by decide, by decide, ?_⟩
        walk_at "f"
        exact k
theorem ok_law_alike (S : En K mg) : ∀ n, FnOk P w K mg base (L2.CX P w) n S.f_law_alike S.d_law_alike ["_law_found", "_law_due"] (lowF K (ctAlike n))
  | 0 => fn_none fun ss st ok ex ⟨d, _, h, _⟩ => nomatch h
  | n + 1 => step_law_alike S n (ok_law_alike S n)
theorem ok_law_sendings (S : En K mg) : FnOk P w K mg base (L2.CX P w) 2 S.f_law_sendings S.d_law_sendings ["_law_h", "_law_many"] (lowF K ctLSendsU) := by
  refine fn_low _ S.F_law_sendings sc_law_sendings (fun ss st ok ex h => ?_) ?_ (fun cdv A outer s H E hr tk po => (bcons (sset 2 sc_law_sendings.nd ddnew)
  (bcons (sfor po (iL (dslL (dlst (acons ds (acons ds (acons ds (acons ds (acons ds (acons ds (acons ds anil)))))))) onone (osome (dcall (dds := []) (ok_law_next S) (hr.mono (by decide)) S.g_law_next S.F_law_next.kp S.b_law_next .nil (fun _ => .nil) tk (acons (dv 0) (acons (dop op_add lr_add (dv 1) di) anil)))))) (gname 3 sc_law_sendings.nd)
   (bcons (spar 4 5 sc_law_sendings.nd (acons (dcall (dds := []) (ok_law_next S) (hr.mono (by decide)) S.g_law_next S.F_law_next.kp S.b_law_next .nil (fun _ => .nil) tk (acons (dv 0) (acons di anil))) (acons (dix ix_list lr_ixL (dlst (acons ds (acons ds (acons ds anil)))) (dcall (dds := []) (ok_law_next S) (hr.mono (by decide)) S.g_law_next S.F_law_next.kp S.b_law_next .nil (fun _ => .nil) tk (acons (dv 0) (acons di anil)))) anil)))
  (bcons (spar 6 7 sc_law_sendings.nd (acons (dix ix_list lr_ixL (dlst (acons di (acons di (acons di (acons di anil))))) (dcall (dds := []) (ok_law_next S) (hr.mono (by decide)) S.g_law_next S.F_law_next.kp S.b_law_next .nil (fun _ => .nil) tk (acons (dv 0) (acons di anil)))) (acons (dop op_add lr_add (dop op_add lr_add (dv 4) di) (dcall (dds := []) (ok_law_next S) (hr.mono (by decide)) S.g_law_next S.F_law_next.kp S.b_law_next .nil (fun _ => .nil) tk (acons (dv 0) (acons di anil)))) anil)))
  (bone (sdput (hu1 hr) (dtup (acons (dix ix_list lr_ixL (dlst (acons ds (acons ds anil))) (dcall (dds := []) (ok_law_next S) (hr.mono (by decide)) S.g_law_next S.F_law_next.kp S.b_law_next .nil (fun _ => .nil) tk (acons (dv 0) (acons di anil)))) (acons (dv 5) (acons (dop op_add lr_add di (dcall (dds := []) (ok_law_next S) (hr.mono (by decide)) S.g_law_next S.F_law_next.kp S.b_law_next .nil (fun _ => .nil) tk (acons (dv 0) (acons di anil)))) (acons (dv 4) (acons (dv 7) (acons (dv 6) anil))))))) (dv 2) (dv 3))))))
  (bone (sret (dv 2))))))
  · rw [ctLSendsU_eq] at h; obtain ⟨_, _, _, _, _, _, _, rfl, _⟩ := h; rfl
  · intro ss st ok ex h
    rw [ctLSendsU_eq] at h
    obtain ⟨p, q, a, i, xs, st0, m, rfl, rfl, hx, m0, m1, k⟩ := h
    walk_at "w"
    intro d hd
    walk_at "zz"
    refine next_at1 (by omega) (by omega) hx fun cnt a i xs c0 c1 hx => ?_
    walk_at "w"
    refine ⟨(sevenN.take cnt.toNat).map Dt.str, ?_, ?_⟩
    · rw [cut_take _ c0]
      show AllD (((sevenN.map Dt.str).map Sv.dat).take cnt.toNat) _
      rw [← List.map_take, ← List.map_take]
      exact .map _
    walk_at "w"
    refine loop_fold (sevenN.take cnt.toNat) (fun n => .str n) (fun s n => s ++ [n]) [] (fun ns Δ' st' => ∃ v3 v4 v5 v6 v7 a i xs, ∃ s : Lst, Δ' = [.own p, dI m, .own d, v3, v4, v5, v6, v7] ∧ st' = (d, .dic (s.map fun x => ((Sum.inr x.1 : Key), Sv.dat (sndT x.2)))) :: (p, obH q a i) :: (q, obX xs) :: st0 ∧ xs.length ≤ 63 ∧ s.map (·.1) = ns ∧ ∀ x ∈ s, SOk x.2 ∧ x.2.show_ ≠ "zoo" ∧ x.2.begin_ ≤ 39 ∧ x.2.end_ ≤ 58 ∧ x.2.begin_ + 5 ≤ x.2.end_ ∧ x.2.show_ ∈ threeW ∧ x.2.end_ ≤ x.2.begin_ + 19) (by rw [List.map_map]; rfl) ⟨.un, .un, .un, .un, .un, a, i, xs, [], rfl, rfl, hx, rfl, fun x h => (by cases h)⟩ ?_ ?_
    · rintro pre n post ns Δ' st' has hns ⟨v3, v4, v5, v6, v7, a, i, xs, s, rfl, rfl, hx, hs1, hs2⟩
      walk_at "w"
      refine next_at1 (by decide) (by decide) hx fun bg a i xs bg0 bg1 hx => ?_
      walk_at "zz"
      refine next_at1 (by decide) (by decide) hx fun ti a i xs ti0 ti1 hx => ?_
      walk_at "w"
      obtain ⟨z, hz, hz3, hat⟩ := word_at2 three_word ti0 (by show ti < 3; omega)
      have hzoo : z ≠ "zoo" := fun e => by subst e; exact absurd hz3 (by decide +kernel)
      refine ⟨_, hat, ?_⟩
      walk_at "zz"
      refine next_at1 (by decide) (by decide) hx fun lk a i xs lk0 lk1 hx => ?_
      walk_at "w"
      obtain ⟨la, hla, hlat⟩ := num_at [0, 0, 1, 4] lk0 (by show lk < 4; omega)
      refine ⟨_, hlat, ?_⟩
      have hla2 : 0 ≤ la ∧ la ≤ 60 := by
        simp only [List.mem_cons, List.not_mem_nil, or_false] at hla
        omega
      walk_at "w"
      refine next_at1 (by decide) (by decide) hx fun m2 a i xs m20 m21 hx => ?_
      walk_at "zz"
      refine next_at1 (by decide) (by decide) hx fun ci a i xs ci0 ci1 hx => ?_
      walk_at "w"
      obtain ⟨ch, hch, hchat⟩ := word_at chan_word ci0 (by show ci < 2; omega)
      refine ⟨_, hchat, ?_⟩
      walk_at "w"
      refine next_at1 (by decide) (by decide) hx fun ep a i xs ep0 ep1 hx => ?_
      walk_at "zz"
      have hs0 : ns = pre := by rw [hns, fold_snoc (fun n : Str => n)]; simp
      have hsl : s.length ≤ 10 := by
        have h1 := congrArg List.length hs1
        have h2 := congrArg List.length has
        rw [List.length_map, hs0] at h1
        rw [List.length_append, List.length_cons, List.length_take] at h2
        have h3 : sevenN.length = 7 := rfl
        omega
      refine ⟨0, _, .inr n, rfl, rfl, by rw [List.length_map, sizeLine_eq]; omega, ?_⟩
      walk_at "w"
      have hnew : (Sum.inr n : Key) ∉ (s.map fun x => ((Sum.inr x.1 : Key), Sv.dat (sndT x.2))).map (·.1) := by
        rw [List.map_map]
        intro q'
        obtain ⟨y, hy, e1⟩ := List.mem_map.mp q'
        have e2 : y.1 = n := Sum.inr.inj e1
        have h1 : n ∈ pre := by rw [← hs0, ← hs1, ← e2]; exact List.mem_map.mpr ⟨y, hy, rfl⟩
        have nd : (sevenN.take cnt.toNat).Nodup := (seven_sorted.imp fun {a b} k e => by subst e; exact absurd k (List.lt_irrefl _)).sublist (List.take_sublist _ _)
        rw [has] at nd
        exact (List.nodup_append.mp nd).2.2 n h1 n List.mem_cons_self rfl
      rw [putD_new hnew]
      refine ⟨_, _, _, _, _, a, i, xs, s ++ [(n, ⟨ch, z, 1 + ep, bg, bg + 5 + m2, la⟩)], rfl, by rw [List.map_append]; rfl, hx, by rw [List.map_append, hs1]; rfl, fun x hx => ?_⟩
      rcases List.mem_append.mp hx with hx | hx
      · exact hs2 x hx
      · rw [List.mem_singleton.mp hx]
        exact ⟨by refine ⟨hch, hz, ?_, ?_, ?_, ?_, ?_, ?_, ?_, ?_⟩ <;> dsimp only <;> omega, hzoo, by dsimp only; omega, by dsimp only; omega, by dsimp only; omega, hz3, by dsimp only; omega⟩
    · rintro Δ' st' ⟨v3, v4, v5, v6, v7, a, i, xs, s, rfl, rfl, hx, hs1, hs2⟩
      have hs0 : s.map (·.1) = sevenN.take cnt.toNat := by rw [hs1, fold_snoc (fun n : Str => n)]; simp
      have hsn : ∀ x ∈ s, x.1 ∈ sevenN := fun x hx => (List.take_sublist _ _).subset (by rw [← hs0]; exact List.mem_map.mpr ⟨x, hx, rfl⟩)
      have hsl : s.length ≤ cnt.toNat := by have := congrArg List.length hs0; rw [List.length_map, List.length_take] at this; omega
      have hlok : LOk s := ⟨by omega, by rw [hs0]; exact seven_sorted.sublist (List.take_sublist _ _), fun x hx => ⟨seven_word _ (hsn x hx), (hs2 x hx).1⟩⟩
      walk_at "w"
      refine ⟨.dat (dicD sndT s), (p, obH q a i) :: (q, obX xs) :: st0, .pub (j := 0) rfl (.dic ?_) (fun z => hd z) (.cons _ (List.Sublist.refl _)), ?_⟩
      · have := allK_map (s.map fun x => ((Sum.inr x.1 : Key), sndT x.2))
        rw [List.map_map] at this
        exact this
      · exact k s a i xs hlok (fun x hx => ⟨⟨⟨hsn x hx, (hs2 x hx).2.1⟩, (hs2 x hx).2.2.1, (hs2 x hx).2.2.2.1, (hs2 x hx).2.2.2.2.1, (hs2 x hx).2.2.2.2.2.1⟩, (hs2 x hx).2.2.2.2.2.2⟩) (by omega) hx
theorem ok_law_rules (S : En K mg) : FnOk P w K mg base (L2.CX P w) 2 S.f_law_rules S.d_law_rules ["_law_h", "_law_many"] (lowF K ctLRulesB) := by
  refine fn_low _ S.F_law_rules sc_law_rules (fun ss st ok ex h => ?_) ?_ (fun cdv A outer s H E hr tk po => (bcons (sset 2 sc_law_rules.nd (dlstO anil))
  (bcons (sfor po (iR S.n_range (acons (dcall (dds := []) (ok_law_next S) (hr.mono (by decide)) S.g_law_next S.F_law_next.kp S.b_law_next .nil (fun _ => .nil) tk (acons (dv 0) (acons (dop op_add lr_add (dv 1) di) anil))) anil)) (gname 3 sc_law_rules.nd)
   (bcons (sset 4 sc_law_rules.nd (dop op_add lr_add di (dcall (dds := []) (ok_law_next S) (hr.mono (by decide)) S.g_law_next S.F_law_next.kp S.b_law_next .nil (fun _ => .nil) tk (acons (dv 0) (acons di anil)))))
  (bcons (sset 5 sc_law_rules.nd (dtup (acons (dix ix_list lr_ixL (dlst (acons di (acons di (acons di anil)))) (dcall (dds := []) (ok_law_next S) (hr.mono (by decide)) S.g_law_next S.F_law_next.kp S.b_law_next .nil (fun _ => .nil) tk (acons (dv 0) (acons di anil)))) (acons (dix ix_list lr_ixL (dlst (acons di (acons di (acons di (acons di anil))))) (dcall (dds := []) (ok_law_next S) (hr.mono (by decide)) S.g_law_next S.F_law_next.kp S.b_law_next .nil (fun _ => .nil) tk (acons (dv 0) (acons di anil)))) anil))))
  (bcons (sset 6 sc_law_rules.nd (dix ix_list lr_ixL (dlst (acons ds (acons ds (acons ds anil)))) (dcall (dds := []) (ok_law_next S) (hr.mono (by decide)) S.g_law_next S.F_law_next.kp S.b_law_next .nil (fun _ => .nil) tk (acons (dv 0) (acons di anil)))))
  (bone (sapp (dv 2) (dop op_catA lr_catU (dtup (acons (dv 6) (acons (dv 4) (acons (dop op_add lr_add (dv 4) (dcall (dds := []) (ok_law_next S) (hr.mono (by decide)) S.g_law_next S.F_law_next.kp S.b_law_next .nil (fun _ => .nil) tk (acons (dv 0) (acons di anil)))) (acons (dop op_add lr_add di (dcall (dds := []) (ok_law_next S) (hr.mono (by decide)) S.g_law_next S.F_law_next.kp S.b_law_next .nil (fun _ => .nil) tk (acons (dv 0) (acons di anil)))) anil))))) (dv 5))))))))
  (bone (sret (dv 2))))))
  · rw [ctLRulesB_eq] at h; obtain ⟨_, _, _, _, _, _, _, rfl, _⟩ := h; rfl
  · intro ss st ok ex h
    rw [ctLRulesB_eq] at h
    obtain ⟨p, q, a, i, xs, st0, m, rfl, rfl, hx, m0, m1, k⟩ := h
    walk_at "zz"
    intro d hd
    walk_at "w"
    refine next_at1 (by omega) (by omega) hx fun cnt a i xs c0 c1 hx => ?_
    walk_at "w"
    refine ⟨by omega, by omega, ?_⟩
    walk_at "w"
    refine loop_fold (List.range cnt.toNat) (fun i => .int (0 + (i : Int))) (fun c _ => c + 1) 0 (fun c Δ' st' => ∃ v3 v4 v5 v6 a i xs, ∃ t : List Rul, Δ' = [.own p, dI m, .own d, v3, v4, v5, v6] ∧ st' = (d, .lst (t.map fun x => .dat (rulT x))) :: (p, obH q a i) :: (q, obX xs) :: st0 ∧ xs.length ≤ 63 ∧ t.length = c ∧ ∀ x ∈ t, ROk x ∧ SmallR x) (by unfold rngS; simp) ⟨.un, .un, .un, .un, a, i, xs, [], rfl, rfl, hx, rfl, fun x h => (by cases h)⟩ ?_ ?_
    · rintro pre kk post c Δ' st' has hc ⟨v3, v4, v5, v6, a, i, xs, t, rfl, rfl, hx, ht1, ht2⟩
      have hcl : c ≤ 7 := by
        rw [count_fold] at hc
        have := congrArg List.length has
        rw [List.length_range, List.length_append] at this
        omega
      walk_at "w"
      refine next_at1 (by decide) (by decide) hx fun fi a i xs fi0 fi1 hx => ?_
      walk_at "zz"
      refine next_at1 (by decide) (by decide) hx fun bi a i xs bi0 bi1 hx => ?_
      walk_at "w"
      obtain ⟨be, hbe, hbat⟩ := num_at [0, 0, 3] bi0 (by show bi < 3; omega)
      refine ⟨_, hbat, ?_⟩
      have hbe2 : 0 ≤ be ∧ be ≤ 3 := by
        simp only [List.mem_cons, List.not_mem_nil, or_false] at hbe
        omega
      walk_at "zz"
      refine next_at1 (by decide) (by decide) hx fun ai a i xs ai0 ai1 hx => ?_
      walk_at "w"
      obtain ⟨af, haf, hafat⟩ := num_at [0, 0, 2, 5] ai0 (by show ai < 4; omega)
      refine ⟨_, hafat, ?_⟩
      have haf2 : 0 ≤ af ∧ af ≤ 5 := by
        simp only [List.mem_cons, List.not_mem_nil, or_false] at haf
        omega
      walk_at "zz"
      refine next_at1 (by decide) (by decide) hx fun ti a i xs ti0 ti1 hx => ?_
      walk_at "w"
      obtain ⟨z, hz, hat⟩ := word_at three_word ti0 (by show ti < 3; omega)
      refine ⟨_, hat, ?_⟩
      walk_at "w"
      refine ⟨⟨0, _, rfl⟩, ?_⟩
      walk_at "w"
      refine next_at1 (by decide) (by decide) hx fun le a i xs le0 le1 hx => ?_
      walk_at "w"
      refine next_at1 (by decide) (by decide) hx fun pr a i xs pr0 pr1 hx => ?_
      walk_at "zz"
      refine ⟨0, _, rfl, by rw [List.length_map, sizeLine_eq]; omega, ?_⟩
      walk_at "w"
      refine ⟨_, _, _, _, a, i, xs, t ++ [⟨z, 1 + fi, 1 + fi + le, 1 + pr, be, af⟩], rfl, by rw [List.map_append]; rfl, hx, by rw [List.length_append, ht1]; rfl, fun x hx => ?_⟩
      rcases List.mem_append.mp hx with hx | hx
      · exact ht2 x hx
      · rw [List.mem_singleton.mp hx]
        refine ⟨⟨hz, ?_, ?_, ?_, ?_, ?_, ?_, ?_, ?_, ?_⟩, ?_, ?_, ?_⟩ <;> dsimp only <;> omega
    · rintro Δ' st' ⟨v3, v4, v5, v6, a, i, xs, t, rfl, rfl, hx, ht1, ht2⟩
      rw [count_fold, List.length_range] at ht1
      walk_at "w"
      refine ⟨.dat (.lst (t.map rulT)), (p, obH q a i) :: (q, obX xs) :: st0, .pub (j := 0) rfl (.lst (allD_of _ _)) (fun z => hd z) (.cons _ (List.Sublist.refl _)), ?_⟩
      exact k t a i xs (by omega) (fun x hx => (ht2 x hx).1) (fun x hx => (ht2 x hx).2) hx
theorem ok_law_drawn (S : En K mg) : FnOk P w K mg base (L2.CX P w) 3 S.f_law_drawn S.d_law_drawn ["_law_h", "_law_many"] (lowF K ctLDrawnU) := by
  refine fn_low _ S.F_law_drawn sc_law_drawn (fun ss st ok ex h => ?_) ?_ (fun cdv A outer s H E hr tk po => (bcons (sset 2 sc_law_drawn.nd (dct call_tuple_of lc_tup S.n_tuple PyProof.Rows.boot_tuple (acons (dlc [("_law_k", 3)] sc_law_drawn.nd (iR S.n_range (acons (dcall (dds := []) (ok_law_next S) (hr.mono (by decide)) S.g_law_next S.F_law_next.kp S.b_law_next .nil (fun _ => .nil) tk (acons (dv 0) (acons di anil))) anil)) (blkOk_by (N := ["_law_h", "_law_many", "_law_seen", "_law_k"]) (sc := defScope s_law_drawn) (by decide +kernel)) (fun _ _ _ _ _ => (gwname 3 sc_law_drawn.nd)) (fun _ _ _ _ _ => tsnil) (fun _ _ _ _ _ => (dtup (acons (dix ix_list lr_ixL (dlst (acons ds (acons ds anil))) (dcall (dds := []) (ok_law_next S) (hr.mono (by decide)) S.g_law_next S.F_law_next.kp S.b_law_next .nil (fun _ => .nil) takes0 (acons (dv 0) (acons di anil)))) (acons (dop op_add lr_add di (dcall (dds := []) (ok_law_next S) (hr.mono (by decide)) S.g_law_next S.F_law_next.kp S.b_law_next .nil (fun _ => .nil) takes0 (acons (dv 0) (acons di anil)))) anil))))) anil)))
  (bone (sret (dtup (acons (dcall (dds := []) (ok_law_sendings S) (hr.mono (by decide)) S.g_law_sendings S.F_law_sendings.kp S.b_law_sendings .nil (fun _ => .nil) tk (acons (dv 0) (acons (dv 1) anil))) (acons (dcall (dds := []) (ok_law_rules S) (hr.mono (by decide)) S.g_law_rules S.F_law_rules.kp S.b_law_rules .nil (fun _ => .nil) tk (acons (dv 0) (acons di anil))) (acons (dv 2) anil))))))))
  · rw [ctLDrawnU_eq] at h; obtain ⟨_, _, _, _, _, _, _, rfl, _⟩ := h; rfl
  · intro ss st ok ex h
    rw [ctLDrawnU_eq] at h
    obtain ⟨p, q, a, i, xs, st0, m, rfl, rfl, npq, np, nq, hx, m0, m1, k⟩ := h
    walk_at "w"
    refine next_at (by decide) (by decide) hx fun cnt a i xs c0 c1 hx => ?_
    walk_at "w"
    refine ⟨by omega, by omega, ?_⟩
    walk_at "w"
    refine lc_state (List.range cnt.toNat) (fun i => .int (0 + (i : Int))) (fun c ds st' => ∃ a i xs, ∃ t : List Ep, st' = (p, obH q a i) :: (q, obX xs) :: st0 ∧ xs.length ≤ 63 ∧ ds = t.map epD ∧ t.length = c ∧ ∀ e ∈ t, isWord e.1 = true) (by unfold rngS; simp) ⟨a, i, xs, [], rfl, hx, rfl, rfl, fun x h => (by cases h)⟩ ?_ ?_
    · rintro c kk D ds st' hi hD ⟨a, i, xs, t, rfl, hx, rfl, ht, htw⟩
      have hcl : c < 2 := by
        have := (List.getElem?_eq_some_iff.mp hi).1
        rw [List.length_range] at this
        omega
      walk_at "ss"
      walk_at "yy"
      refine next_at1 (by decide) (by decide) hx fun ti a i xs ti0 ti1 hx => ?_
      walk_at "w"
      obtain ⟨z, hz, hat⟩ := word_at two_word ti0 (by show ti < 2; omega)
      refine ⟨_, hat, ?_⟩
      walk_at "w"
      refine next_at1 (by decide) (by decide) hx fun ep a i xs ep0 ep1 hx => ?_
      walk_at "zz"
      refine lcr_yes (by rw [List.length_map, sizeLine_eq]; omega) ⟨a, i, xs, t ++ [(z, 1 + ep)], rfl, hx, by rw [List.map_append]; rfl, by rw [List.length_append, ht]; rfl, fun e he => ?_⟩
      rcases List.mem_append.mp he with he | he
      · exact htw e he
      · rw [List.mem_singleton.mp he]
        exact hz
    · rintro ds st' ⟨a, i, xs, t, rfl, hx, rfl, ht, htw⟩
      rw [List.length_range] at ht
      walk_at "w"
      rw [ctLSendsU_eq]
      refine ⟨p, q, a, i, xs, st0, m, rfl, rfl, hx, m0, m1, fun l a i xs hl hl7 hlm hx => ?_⟩
      walk_at "w"
      rw [ctLRulesB_eq]
      refine ⟨p, q, a, i, xs, st0, 4, rfl, rfl, hx, by decide, by decide, fun r a i xs hr1 hr2 hr3 hx => ?_⟩
      walk_at "zz"
      walk_at "f"
      exact k ⟨r, t⟩ l a i xs ⟨Nat.le_trans hr1 (by decide), hr2, by show t.length ≤ 63; omega, htw⟩ hr1 hr3 (by show t.length ≤ 1; omega) hl hl7 hlm hx
theorem ok_law_listing (S : En K mg) : FnOk P w K mg base (L2.CX P w) 5 S.f_law_listing S.d_law_listing ["_law_sendings_here"] (lowF K (ctLListing ⟨S.C_Book, S.C_Rule, S.C_Listing, S.C_Sending⟩)) := by
  refine fn_low _ S.F_law_listing sc_law_listing (fun ss st ok ex h => ?_) ?_ (fun cdv A outer s H E hr tk po => (bcons (sset 1 sc_law_listing.nd ddnew)
  (bcons (sforK po tk (dv 0) (gname 2 sc_law_listing.nd)
   (fun V tk => (bcons (sasgG (ddget (hu1 hr) (dv 0) (dv 2)) (gtup 6 (gscons (gname 3 sc_law_listing.nd) (gscons (gname 4 sc_law_listing.nd) (gscons (gname 5 sc_law_listing.nd) (gscons (gname 6 sc_law_listing.nd) (gscons (gname 7 sc_law_listing.nd) (gscons (gname 8 sc_law_listing.nd) gsnil))))))))
  (bone (sdput (hu1 hr) (dmake (dds := []) S.mk_Sending (ok_Sending_init S) (hr.mono (by decide)) S.g_Sending S.b7_Sending_init S.v7_Sending_init (fun _ => .nil) tk (acons (dv 3) (acons (dv 4) (acons (dv 5) (acons (dv 6) (acons (dv 7) (acons (dv 8) anil))))))) (dv 1) (dv 2))))))
  (bone (sret (dmake (dds := []) S.mk_Listing (ok_Listing_init S) (hr.mono (by decide)) S.g_Listing S.b_Listing_init .nil (fun _ => .nil) tk (acons (dpub (dv 1)) anil)))))))
  · rw [ctLListing_eq] at h; obtain ⟨_, rfl, _⟩ := h; rfl
  · intro ss st ok ex h
    rw [ctLListing_eq] at h
    obtain ⟨l, rfl, hl, k⟩ := h
    walk_at "zz"
    intro p hp
    walk_at "w"
    refine loop_fold l (fun x => .str x.1) (fun s x => s ++ [((Sum.inr x.1 : Key), Sv.dat (x.2.d S.C_Sending))]) [] (fun s Δ' st' => ∃ v2 v3 v4 v5 v6 v7 v8, Δ' = [.dat (dicD sndT l), .own p, v2, v3, v4, v5, v6, v7, v8] ∧ st' = (p, .dic s) :: st) (by unfold keysD; rw [List.map_map]; rfl) ⟨.un, .un, .un, .un, .un, .un, .un, rfl, rfl⟩ ?_ ?_
    · rintro pre x post s Δ' st' has hs ⟨v2, v3, v4, v5, v6, v7, v8, rfl, rfl⟩
      rw [fold_snoc, List.nil_append] at hs
      have hx : x ∈ l := by rw [has]; simp
      have hok := (hl.ok x hx).2
      walk_at "w"
      refine ⟨.inr x.1, .dat (sndT x.2), rfl, by rw [getD_dic sndT l x.1, hl.get hx]; rfl, ?_⟩
      walk_at "w"
      refine ⟨rfl, ?_⟩
      walk_at "w"
      intro q hq
      have hno := sok_none hok
      refine ⟨q, _, _, _, _, _, _, _, rfl, rfl, word_len hok.ch, word_len hok.sh, trivial, trivial, trivial, trivial, fun z hz => (by have := hno.symm.trans hz; cases this), fun _ => ?_⟩
      refine ⟨rfl, _, _, _, rfl, .cons (.cons (.cons (.cons (.cons (.cons .nil))))), ?_⟩
      walk_at "w"
      have hsl : s.length ≤ 10 := by
        have := hl.len
        rw [has, List.length_append] at this
        rw [hs, List.length_map]
        omega
      refine ⟨0, _, .inr x.1, rfl, rfl, Nat.lt_of_le_of_lt hsl (by rw [sizeLine_eq]; decide), ?_⟩
      walk_at "w"
      have hnew : (Sum.inr x.1 : Key) ∉ s.map (·.1) := by
        have nd := hl.nodup
        rw [has, List.map_append] at nd
        rw [hs, List.map_map]
        intro z
        obtain ⟨y, hy, e1⟩ := List.mem_map.mp z
        have e2 : y.1 = x.1 := Sum.inr.inj e1
        exact (List.nodup_append.mp nd).2.2 y.1 (List.mem_map.mpr ⟨y, hy, rfl⟩) x.1 List.mem_cons_self e2
      rw [putD_new hnew]
      exact ⟨_, _, _, _, _, _, _, rfl, rfl⟩
    · rintro Δ' st' ⟨v2, v3, v4, v5, v6, v7, v8, rfl, rfl⟩
      rw [fold_snoc, List.nil_append]
      walk_at "w"
      refine ⟨.dat (dicD (Snd.d S.C_Sending) l), st, .pub (j := 0) rfl (.dic ?_) hp (.cons _ (List.Sublist.refl _)), ?_⟩
      · have := allK_map (l.map fun x => ((Sum.inr x.1 : Key), x.2.d S.C_Sending))
        rw [List.map_map] at this
        exact this
      walk_at "w"
      intro q hq
      rw [ctListing_eq]
      refine ⟨q, _, l, rfl, rfl, hl.len, hl.nd, fun x hx => (hl.ok x hx).1, rfl, _, _, _, rfl, .cons .nil, ?_⟩
      exact ⟨_, _, .keep (List.Sublist.refl _), k⟩
theorem ok_law_book (S : En K mg) : FnOk P w K mg base (L2.CX P w) 5 S.f_law_book S.d_law_book ["_law_rules_here", "_law_seen"] (lowF K (ctLBook ⟨S.C_Book, S.C_Rule, S.C_Listing, S.C_Sending⟩)) := by
  refine fn_low _ S.F_law_book sc_law_book (fun ss st ok ex h => ?_) ?_ (fun cdv A outer s H E hr tk po => (bcons (ssetLc 2 [("_law_title", 3), ("_law_first", 4), ("_law_last", 5), ("_law_rank", 6), ("_law_before", 7), ("_law_after", 8)] sc_law_book.nd (iL (dv 0)) (blkOk_by (N := ["_law_rules_here", "_law_seen", "_law_some", "_law_title", "_law_first", "_law_last", "_law_rank", "_law_before", "_law_after"]) (sc := defScope s_law_book) (by decide +kernel)) (fun _ _ _ _ _ => (gwtup 6 (gswcons (gwname 3 sc_law_book.nd) (gswcons (gwname 4 sc_law_book.nd) (gswcons (gwname 5 sc_law_book.nd) (gswcons (gwname 6 sc_law_book.nd) (gswcons (gwname 7 sc_law_book.nd) (gswcons (gwname 8 sc_law_book.nd) gswnil)))))))) (fun _ _ _ _ _ => tsnil) (fun _ _ _ _ _ => (dmake (dds := []) S.mk_Rule (ok_Rule_init S) (hr.mono (by decide)) S.g_Rule S.b7_Rule_init S.v7_Rule_init (fun _ => .nil) takes0 (acons (dv 3) (acons (dv 4) (acons (dv 5) (acons (dv 6) (acons (dv 7) (acons (dv 8) anil)))))))))
  (bone (sret (dmake (dds := []) S.mk_Book (ok_Book_init S) (hr.mono (by decide)) S.g_Book S.b3_Book_init S.v3_Book_init (fun _ => .nil) tk (acons (dct call_tuple_of lc_tup S.n_tuple PyProof.Rows.boot_tuple (acons (dv 2) anil)) (acons (dv 1) anil)))))))
  · rw [ctLBook_eq] at h; obtain ⟨_, rfl, _⟩ := h; rfl
  · intro ss st ok ex h
    rw [ctLBook_eq] at h
    obtain ⟨b, rfl, hb, k⟩ := h
    walk_at "w"
    refine lc_pure b.rules rulT (fun r => some (r.d S.C_Rule)) (by rw [List.map_map]; rfl) ?_ ?_
    · intro i r D acc hx hD J
      have hok := hb.ok r (List.mem_of_getElem? hx)
      walk_at "w"
      refine ⟨rfl, ?_⟩
      rw [show wipeD _ _ = ([.dat (.lst (b.rules.map rulT)), .dat (.tup (b.seen.map epD)), .un, .un, .un, .un, .un, .un, .un] : List Sv) from rfl]
      walk_at "ss"
      intro q hq
      have hno := rok_none hok
      refine ⟨q, _, _, _, _, _, _, _, rfl, rfl, word_len hok.sh, trivial, trivial, trivial, trivial, trivial, fun z hz => (by have := hno.symm.trans hz; cases this), fun _ => ?_⟩
      refine ⟨rfl, _, _, _, rfl, .cons (.cons (.cons (.cons (.cons (.cons .nil))))), ?_⟩
      exact lc_yes (Nat.le_trans hb.len (by decide)) hx J rfl
    rw [fm_some]
    walk_at "w"
    intro q hq
    rw [ctBook_eq]
    refine ⟨q, _, b.rules, b.seen, rfl, rfl, hb.len, rfl, _, _, _, rfl, .cons (.cons .nil), ?_⟩
    exact ⟨_, _, .keep (List.Sublist.refl _), k⟩
theorem ok_law_rule (S : En K mg) : FnOk P w K mg base (L2.CX P w) 1 S.f_law_rule S.d_law_rule ["_law_drawn_here", "_law_name"] (lowF K ctLRule) := by
  refine fn_low _ S.F_law_rule sc_law_rule (fun ss st ok ex h => ?_) ?_ (fun cdv A outer s H E hr tk po => (bcons (sasgG (dslT (ddget (hu1 hr) (dix ix_tup lr_ixT (dv 0) di) (dv 1)) onone (osome di)) (gtup 3 (gscons (gname 2 sc_law_rule.nd) (gscons (gname 3 sc_law_rule.nd) (gscons (gname 4 sc_law_rule.nd) gsnil)))))
  (bcons (ssetLc 5 [("_law_rule_here", 6)] sc_law_rule.nd (iL (dix ix_tup lr_ixT (dv 0) di)) (blkOk_by (N := ["_law_drawn_here", "_law_name", "_law_channel", "_law_title", "_law_episode", "_law_good", "_law_rule_here"]) (sc := defScope s_law_rule) (by decide +kernel)) (fun _ _ _ _ _ => (gwname 6 sc_law_rule.nd)) (fun _ _ _ _ _ => (tsone (tw (wand (tcmp op_eq lr_eqS (dix ix_tup lr_ixT (dv 6) di) (dv 3) (nomark _)) (wand1 (tchain op_le op_le lr_le lr_le (dix ix_tup lr_ixT (dv 6) di) (dv 4) (dix ix_tup lr_ixT (dv 6) di))))))) (fun _ _ _ _ _ => (dv 6)))
  (bone (sret (difx (tw (wand (tcmp (op_neD (hu64 hr)) lr_neP (dv 5) (dlst anil) (nomark _)) (wand1 (tsNi hr (dtup (acons (dv 3) (acons (dv 4) anil))) (dix ix_tup lr_ixT (dv 0) di))))) (dix ix_list lr_ixL (dv 5) di) dn))))))
  · exact dr_len (m := 1) (fun _ => rfl) h
  · intro ss st ok ex h
    unfold ctLRule at h
    rw [ctDr_eq] at h
    obtain ⟨b, l, x, rfl, hb, hl, hx, k⟩ := h
    have hok := (hl.ok x hx).2
    walk_at "dd"
    walk_at "w"
    refine ⟨.inr x.1, .dat (sndT x.2), rfl, by rw [getD_dic sndT l x.1, hl.get hx]; rfl, ?_⟩
    walk_at "w"
    refine ⟨rfl, ?_⟩
    walk_at "dd"
    walk_at "w"
    refine lc_pure b.rules rulT (fun r => if (decide (r.show_ = x.2.show_) && (decide (r.first ≤ x.2.episode) && decide (x.2.episode ≤ r.last))) = true then some (rulT r) else none) (by rw [List.map_map]; rfl) ?_ ?_
    · intro i r D acc hi hD J
      walk_at "dd"
      walk_at "w"
      refine ⟨fun e1 => ?_, fun e1 => ?_⟩
      · walk_at "dd"
        walk_at "w"
        refine ⟨fun e2 => ?_, fun e2 => ?_⟩
        · walk_at "dd"
          walk_at "w"
          refine ⟨fun e3 => ?_, fun e3 => ?_⟩
          · walk_at "w"
            exact lc_yes (Nat.le_trans hb.len (by decide)) hi J (if_pos (by rw [show decide (r.show_ = x.2.show_) = true from e1, show decide (r.first ≤ x.2.episode) = true from e2, show decide (x.2.episode ≤ r.last) = true from e3]; rfl))
          · walk_at "w"
            exact lc_no hi J (if_neg (by rw [show decide (r.show_ = x.2.show_) = true from e1, show decide (r.first ≤ x.2.episode) = true from e2, show decide (x.2.episode ≤ r.last) = false from e3]; decide))
        · walk_at "ss"
          exact lc_no hi J (if_neg (by rw [show decide (r.show_ = x.2.show_) = true from e1, show decide (r.first ≤ x.2.episode) = false from e2]; simp))
      · walk_at "ss"
        exact lc_no hi J (if_neg (by rw [show decide (r.show_ = x.2.show_) = false from e1]; simp))
    · rw [fm_if]
      have hfw : ∀ r ∈ b.rules.filter (fun r => decide (r.show_ = x.2.show_) && (decide (r.first ≤ x.2.episode) && decide (x.2.episode ≤ r.last))), isWord r.show_ = true := fun r hr => (hb.ok r (List.mem_filter.mp hr).1).sh
      unfold ruleFor ruleOf at k
      rw [find_filter] at k
      walk_at "zz"
      refine ⟨_, .list [], .lst (ruls_of _), .lst .nil, ruls_shaped _ hfw, nil_shaped, ?_⟩
      rw [ruls_nil]
      cases hf : b.rules.filter (fun r => decide (r.show_ = x.2.show_) && (decide (r.first ≤ x.2.episode) && decide (x.2.episode ≤ r.last))) with
      | nil =>
        rw [hf] at k
        refine ⟨fun h => absurd h Bool.false_ne_true, fun _ => ?_⟩
        walk_at "ss"
        refine ⟨_, _, .keep (List.Sublist.refl _), ?_⟩
        have e : (if (x.2.show_, x.2.episode) ∈ b.seen then none else ([] : List Rul).head?) = none := by split <;> rfl
        rw [e] at k
        exact k
      | cons r rs =>
        rw [hf] at k
        refine ⟨fun _ => ?_, fun h => absurd h.symm Bool.false_ne_true⟩
        walk_at "yy"
        refine ⟨epP (x.2.show_, x.2.episode), b.seen.map epP, ep_of (x.2.show_, x.2.episode), eps_of _, ep_shaped (x.2.show_, x.2.episode) hok.sh, eps_lay _ hb.sok, ?_⟩
        rw [ep_any]
        refine ⟨fun h => ?_, fun h => ?_⟩
        · have h' : ¬ (x.2.show_, x.2.episode) ∈ b.seen := by simpa using h
          rw [if_neg h'] at k
          walk_at "w"
          refine ⟨.dat (rulT r), atI_get (Int.le_refl 0) rfl, ?_⟩
          walk_at "f"
          exact k
        · have h' : (x.2.show_, x.2.episode) ∈ b.seen := by simpa using h
          rw [if_pos h'] at k
          walk_at "f"
          exact k
theorem ok_law_groups (S : En K mg) : FnOk P w K mg base (L2.CX P w) 2 S.f_law_groups S.d_law_groups ["_law_drawn_here"] (lowF K ctLGroups) := by
  refine fn_low _ S.F_law_groups sc_law_groups (fun ss st ok ex h => ?_) ?_ (fun cdv A outer s H E hr tk po => (bcons (sparC 1 2 sc_law_groups.nd (acons dtnew (acons (dlstO anil) anil)))
  (bcons (sforK po tk (dix ix_tup lr_ixT (dv 0) di) (gname 3 sc_law_groups.nd)
   (fun V tk => (bone (sif (tnotN (dcall (dds := []) (ok_law_rule S) (hr.mono (by decide)) S.g_law_rule S.F_law_rule.kp S.b_law_rule .nil (fun _ => .nil) tk (acons (dv 0) (acons (dv 3) anil))))
   (bcons (sset 4 sc_law_groups.nd (dslT (ddget (hu1 hr) (dix ix_tup lr_ixT (dv 0) di) (dv 3)) (osome di) (osome di)))
  (bone (stput (hu1 hr) (dcb (cr_sortP (hu65 hr)) lc_sortP S.n_sorted PyProof.Rows.boot_sorted (acons (dop op_cat lr_cat (dtget2 (hu1 hr) (dv 1) (dv 4) (dlst anil)) (dlst (acons (dtup (acons (dix ix_tup lr_ixT (ddget (hu1 hr) (dix ix_tup lr_ixT (dv 0) di) (dv 3)) di) (acons (dv 3) anil))) anil))) anil)) (dv 1) (dv 4)))) bnil))))
  (bcons (spub 1 (sforK po tk (dv 1) (gname 4 sc_law_groups.nd)
   (fun V tk => (bone (sapp (dv 2) (dtup (acons (dop op_sub lr_sub di (dix ix_tup lr_ixT (dcall (dds := []) (ok_law_rule S) (hr.mono (by decide)) S.g_law_rule S.F_law_rule.kp S.b_law_rule .nil (fun _ => .nil) tk (acons (dv 0) (acons (dix ix_tup lr_ixT (dix ix_list lr_ixL (dtget (hu1 hr) (dv 1) (dv 4)) di) di) anil))) di)) (acons (dix ix_tup lr_ixT (dix ix_list lr_ixL (dtget (hu1 hr) (dv 1) (dv 4)) di) di) (acons (dv 4) anil)))))))))
  (bone (sret (dct (call_dictPT rfl (hu65 hr)) lc_dictT S.n_dict PyProof.Rows.boot_dict (acons (dlc [("_law_row", 6)] sc_law_groups.nd (iL (dcb (cr_sortP (hu65 hr)) lc_sortP S.n_sorted PyProof.Rows.boot_sorted (acons (dv 2) anil))) (blkOk_by (N := ["_law_drawn_here", "_law_found", "_law_rows", "_law_name", "_law_episode", "_law_begin", "_law_row"]) (sc := defScope s_law_groups) (by decide +kernel)) (fun _ _ _ _ _ => (gwname 6 sc_law_groups.nd)) (fun _ _ _ _ _ => tsnil) (fun _ _ _ _ _ => (dtup (acons (dix ix_tup lr_ixT (dv 6) di) (acons (dlc [("_law_begin", 5), ("_law_name", 3)] sc_law_groups.nd (iL (dtget (hu1 hr) (dv 1) (dix ix_tup lr_ixT (dv 6) di))) (blkOk_by (by rfl)) (fun _ _ _ _ _ => (gwtup 2 (gswcons (gwname 5 sc_law_groups.nd) (gswcons (gwname 3 sc_law_groups.nd) gswnil)))) (fun _ _ _ _ _ => tsnil) (fun _ _ _ _ _ => (dv 3))) anil))))) anil))))))))
  · exact dr_len (m := 0) (fun _ => rfl) h
  · intro ss st ok ex h
    unfold ctLGroups at h
    rw [ctDr_eq] at h
    obtain ⟨b, l, _, rfl, hb, hl, -, k⟩ := h
    walk_at "w"
    intro p hp
    walk_at "zz"
    intro q hq
    walk_at "dd"
    walk_at "w"
    refine loop_fold l (fun x => .str x.1) (wiAdd b) [] (fun ws Δ' st' => ∃ v3 v4 v5 v6, Δ' = [.dat (drawnD b l), .own p, .own q, v3, v4, v5, v6] ∧ st' = (q, .lst []) :: (p, .dtt (grD (groupsAt ws))) :: st) (by unfold keysD; rw [List.map_map]; rfl) ⟨.un, .un, .un, .un, rfl, rfl⟩ ?_ ?_
    · rintro pre x post ws Δ' st' has hs ⟨v3, v4, v5, v6, rfl, rfl⟩
      have hx : x ∈ l := by rw [has]; simp
      have hok := (hl.ok x hx).2
      walk_at "w"
      refine dr_at x rfl hb hl hx ?_
      cases hr : ruleFor b x.2 with
      | none =>
        walk_at "ss"
        rw [wiAdd_none hr]
        exact ⟨_, _, _, _, rfl, rfl⟩
      | some r =>
        walk_at "ss"
        walk_at "dd"
        walk_at "w"
        refine ⟨.inr x.1, .dat (sndT x.2), rfl, by rw [getD_dic sndT l x.1, hl.get hx]; rfl, ?_⟩
        walk_at "w"
        rw [cut13]
        refine ⟨⟨1, _, rfl, trivial⟩, ?_⟩
        walk_at "zz"
        refine ⟨1, _, rfl, epKey x.2.ep, rfl, ?_⟩
        rw [get_groups]
        walk_at "dd"
        walk_at "w"
        refine ⟨.inr x.1, .dat (sndT x.2), rfl, by rw [getD_dic sndT l x.1, hl.get hx]; rfl, ?_⟩
        walk_at "yy"
        have hwl : ws.length ≤ 10 := by
          have h1 := wiAdd_len (b := b) (pre := pre)
          rw [← hs] at h1
          have h2 := hl.len
          rw [has, List.length_append] at h2
          omega
        have hbl := bnsAt_len ws x.2.ep
        refine ⟨by rw [List.length_map, List.length_map, sizeLine_eq]; show _ + 1 ≤ _; omega, (bnsAt ws x.2.ep ++ [(x.2.begin_, x.1)]).map bnD, ?_, ?_⟩
        · have e : (((bnsAt ws x.2.ep ++ [(x.2.begin_, x.1)]).map bnD).map Sv.dat) = ((bnsAt ws x.2.ep).map bnD).map Sv.dat ++ [.dat (bnD (x.2.begin_, x.1))] := by
            rw [List.map_append, List.map_append]
            rfl
          have := AllD.map ((bnsAt ws x.2.ep ++ [(x.2.begin_, x.1)]).map bnD)
          rw [e] at this
          exact this
        walk_at "w"
        refine ⟨SP.Bn, bnsAt ws x.2.ep ++ [(x.2.begin_, x.1)], bnD, bnP, by rw [List.map_map]; rfl, bn_of, bn_alike _, bn_sortable _, fun r _ => bn_depth r, ?_⟩
        walk_at "w"
        refine ⟨1, _, epKey x.2.ep, rfl, rfl, Nat.lt_of_le_of_lt (groups_len ws) (by rw [sizeLine_eq]; omega), ?_⟩
        walk_at "w"
        have hput := put_groups ws ⟨x.1, x.2, r⟩
        rw [wiAdd_some hr]
        refine ⟨_, _, _, _, rfl, ?_⟩
        rw [← hput]
        rfl
    · rintro Δ' st' ⟨v3, v4, v5, v6, rfl, rfl⟩
      rw [wiAdd_all]
      walk_at "w"
      have hpq : p ∉ keys ((q, Ob.lst []) :: st) := fun z => by
        rcases List.mem_cons.mp z with z | z
        · exact hq (by rw [show p = q from z]; exact List.mem_cons_self)
        · exact hp z
      refine ⟨.own p, .dat (groupsD0 (wished b l)), (q, .lst []) :: st, rfl, (fun z => by cases z), .pub (j := 1) rfl (.dtt (allK_gr _)) hpq (.cons_cons _ (.cons _ (List.Sublist.refl _))), ?_⟩
      walk_at "w"
      refine loop_fold (epsOf (wished b l)) epD (fun s e => s ++ [minRow b l e]) [] (fun s Δ' st' => ∃ v3 v4 v5 v6, Δ' = [.dat (drawnD b l), .dat (groupsD0 (wished b l)), .own q, v3, v4, v5, v6] ∧ st' = (q, .lst (s.map fun r => .dat (rowD r))) :: st) (by unfold keysTD groupsAt; rw [List.map_map, List.map_map]; rfl) ⟨_, _, _, _, rfl, rfl⟩ ?_ ?_
      · rintro pre e post s Δ' st' has hs ⟨v3, v4, v5, v6, rfl, rfl⟩
        have hme : e ∈ epsOf (wished b l) := by rw [has]; simp
        obtain ⟨x0, h0, he0, ⟨rest, hrest⟩, _, hmin⟩ := head_bn hme
        walk_at "w"
        refine ⟨⟨0, _, rfl⟩, ?_⟩
        walk_at "w"
        refine ⟨epKey e, _, rfl, get_known hme, ?_⟩
        rw [bnsAt_is, hrest]
        walk_at "w"
        refine ⟨.dat (bnD x0.bn), atI_get (Int.le_refl 0) rfl, ?_⟩
        walk_at "dd"
        walk_at "w"
        refine dr_at (x0.n, x0.s) rfl hb hl (wished_mem.mp h0).1 ?_
        rw [(wished_mem.mp h0).2]
        walk_at "dd"
        walk_at "w"
        refine ⟨epKey e, _, rfl, get_known hme, ?_⟩
        rw [bnsAt_is, hrest]
        walk_at "w"
        refine ⟨.dat (bnD x0.bn), atI_get (Int.le_refl 0) rfl, ?_⟩
        walk_at "dd"
        walk_at "zz"
        have hsl : s.length ≤ 10 := by
          have h1 := epsOf_len (wished b l)
          have h2 := wished_len (b := b) hl
          rw [has, List.length_append] at h1
          rw [fold_snoc, List.nil_append] at hs
          rw [hs, List.length_map]
          omega
        refine ⟨0, _, rfl, by rw [List.length_map, sizeLine_eq]; omega, ?_⟩
        walk_at "w"
        refine ⟨_, _, _, _, rfl, ?_⟩
        rw [List.map_append, hmin]
        simp only [Int.zero_sub]
        rw [← he0]
        rfl
      · rintro Δ' st' ⟨v3, v4, v5, v6, rfl, rfl⟩
        rw [fold_snoc, List.nil_append]
        walk_at "w"
        refine ⟨0, _, rfl, SP.Row, rowsL b l, rowD, rowP, rfl, row_of, row_alike _, row_sortable _, fun r _ => row_depth r, ?_⟩
        walk_at "w"
        refine lc_pure ((rowsL b l).mergeSort rowLe) rowD (fun r => some (.tup [epD r.2.2, namesD (sendsOf b l r.2.2)])) (by rw [List.map_map]; rfl) ?_ ?_
        · intro i r D acc hi hD J
          have hme := rowsL_mem ((List.mergeSort_perm _ _).mem_iff.mp (List.mem_of_getElem? hi))
          walk_at "ss"
          walk_at "dd"
          walk_at "w"
          refine ⟨epKey r.2.2, _, rfl, get_known hme, ?_⟩
          walk_at "w"
          refine lc_pure (bnOf b l r.2.2) bnD (fun y => some (.str y.2)) (by rw [List.map_map]; rfl) ?_ ?_
          · intro i2 y D2 acc2 hi2 hD2 J2
            walk_at "w"
            refine ⟨rfl, ?_⟩
            walk_at "ss"
            exact lc_yes (by rw [(bn_perm b l _).length_eq]; exact Nat.le_trans (bn_len hl _) (by decide)) hi2 J2 rfl
          · rw [fm_some]
            walk_at "zz"
            exact lc_yes (by rw [(List.mergeSort_perm _ _).length_eq]; exact Nat.le_trans (rowsL_len hl) (by decide)) hi J (by unfold namesD sendsOf; rw [List.map_map]; rfl)
        · rw [fm_some]
          walk_at "w"
          refine ⟨_, (wishes b l).map fun e => (epKey e, namesD (sendsOf b l e)), .map _, ?_, ?_⟩
          · have e : ((rowsL b l).mergeSort rowLe).map (fun r => Dt.tup [epD r.2.2, namesD (sendsOf b l r.2.2)]) = (((rowsL b l).mergeSort rowLe).map (·.2.2)).map fun e => Dt.tup [epD e, namesD (sendsOf b l e)] := by rw [List.map_map]; rfl
            rw [e, rows_wish]
            exact pairs_ep _ _
          · rw [putDs_nd _ (keys_ep (wishes_nd b l) _)]
            exact ⟨_, st, .keep (.cons _ (List.Sublist.refl _)), k⟩
theorem ok_law_window (S : En K mg) : FnOk P w K mg base (L2.CX P w) 2 S.f_law_window S.d_law_window ["_law_drawn_here", "_law_name"] (lowF K ctLWindow) := by
  refine fn_low _ S.F_law_window sc_law_window (fun ss st ok ex h => ?_) ?_ (fun cdv A outer s H E hr tk po => (bcons (spar 2 3 sc_law_window.nd (acons (dcall (dds := []) (ok_law_rule S) (hr.mono (by decide)) S.g_law_rule S.F_law_rule.kp S.b_law_rule .nil (fun _ => .nil) tk (acons (dv 0) (acons (dv 1) anil))) (acons (ddget (hu1 hr) (dix ix_tup lr_ixT (dv 0) di) (dv 1)) anil)))
  (bone (sret (dtup (acons (dcb (call_max2 rfl) lc_max2 S.n_max PyProof.Rows.boot_max (acons di (acons (dop op_sub lr_sub (dix ix_tup lr_ixT (dv 3) di) (dix ix_tup lr_ixT (dv 2) di)) anil))) (acons (dop op_add lr_add (dix ix_tup lr_ixT (dv 3) di) (dix ix_tup lr_ixT (dv 2) di)) anil)))))))
  · exact dr_len (m := 1) (fun _ => rfl) h
  · intro ss st ok ex h
    unfold ctLWindow at h
    rw [ctDr_eq] at h
    obtain ⟨b, l, x, rfl, hb, hl, hx, k⟩ := h
    obtain ⟨hx1, hx2⟩ := wished_mem.mp hx
    walk_at "w"
    refine dr_at (x.n, x.s) rfl hb hl hx1 ?_
    rw [hx2]
    walk_at "dd"
    walk_at "w"
    refine ⟨.inr x.n, .dat (sndT x.s), rfl, by rw [getD_dic sndT l x.n, hl.get hx1]; rfl, ?_⟩
    walk_at "yy"
    exact ⟨_, _, .keep (List.Sublist.refl _), k⟩
theorem ok_law_cross (S : En K mg) : FnOk P w K mg base (L2.CX P w) 3 S.f_law_cross S.d_law_cross ["_law_drawn_here", "_law_one", "_law_other"] (lowF K ctLCross) := by
  refine fn_low _ S.F_law_cross sc_law_cross (fun ss st ok ex h => ?_) ?_ (fun cdv A outer s H E hr tk po => (bcons (spar 3 4 sc_law_cross.nd (acons (dcall (dds := []) (ok_law_window S) (hr.mono (by decide)) S.g_law_window S.F_law_window.kp S.b_law_window .nil (fun _ => .nil) tk (acons (dv 0) (acons (dv 1) anil))) (acons (dcall (dds := []) (ok_law_window S) (hr.mono (by decide)) S.g_law_window S.F_law_window.kp S.b_law_window .nil (fun _ => .nil) tk (acons (dv 0) (acons (dv 2) anil))) anil)))
  (bone (sret (dcmp op_lt lr_lt (dcb (call_max2 rfl) lc_max2 S.n_max PyProof.Rows.boot_max (acons (dix ix_tup lr_ixT (dv 3) di) (acons (dix ix_tup lr_ixT (dv 4) di) anil))) (dcb (call_min2 rfl) lc_min2 S.n_min PyProof.Rows.boot_min (acons (dix ix_tup lr_ixT (dv 3) di) (acons (dix ix_tup lr_ixT (dv 4) di) anil))) (nomark _))))))
  · exact dr_len (m := 2) (fun _ => rfl) h
  · intro ss st ok ex h
    unfold ctLCross at h
    rw [ctDr_eq] at h
    obtain ⟨b, l, ⟨x, y⟩, rfl, hb, hl, ⟨hx, hy⟩, k⟩ := h
    dsimp only at hx hy k
    walk_at "w"
    refine dr_at x rfl hb hl hx ?_
    walk_at "w"
    refine dr_at y rfl hb hl hy ?_
    walk_at "yy"
    refine ⟨_, _, .keep (List.Sublist.refl _), ?_⟩
    rw [← cross_is (win_pos hb hl hx) (win_pos hb hl hy)] at k
    exact k
theorem ok_law_taken (S : En K mg) : FnOk P w K mg base (L2.CX P w) 4 S.f_law_taken S.d_law_taken ["_law_drawn_here", "_law_receivers"] (lowF K ctLTaken) := by
  refine fn_low _ S.F_law_taken sc_law_taken (fun ss st ok ex h => ?_) ?_ (fun cdv A outer s H E hr tk po => (bcons (spar3 2 3 4 sc_law_taken.nd (acons (dlstO anil) (acons (dlstO anil) (acons (dcall (dds := []) (ok_law_groups S) (hr.mono (by decide)) S.g_law_groups S.F_law_groups.kp S.b_law_groups .nil (fun _ => .nil) tk (acons (dv 0) anil)) anil))))
  (bcons (sforK po tk (dv 4) (gname 5 sc_law_taken.nd)
   (fun V tk => (bcons (sset 6 sc_law_taken.nd (dlstO anil))
  (bcons (sfor po (iL (dtget (hu1 hr) (dv 4) (dv 5))) (gname 7 sc_law_taken.nd)
   (bone (sfor po (iR S.n_range (acons (dv 1) anil)) (gname 8 sc_law_taken.nd)
   (bone (sif (tsNi hr db (dlcO [("_law_other", 9), ("_law_place", 10)] sc_law_taken.nd (dv 2) (blkOk_by (N := ["_law_drawn_here", "_law_receivers", "_law_taken_here", "_law_missed", "_law_groups_here", "_law_episode", "_law_free", "_law_name", "_law_receiver", "_law_other", "_law_place"]) (sc := defScope s_law_taken) (by decide +kernel)) (fun _ _ _ _ _ => (gwtup 2 (gswcons (gwname 9 sc_law_taken.nd) (gswcons (gwname 10 sc_law_taken.nd) gswnil)))) (fun _ _ _ _ _ => (tsone (tcmp op_eq lr_eqS (dv 10) (dv 8) (nomark _)))) (fun _ _ _ _ _ => (dcall (dds := []) (ok_law_cross S) (hr.mono (by decide)) S.g_law_cross S.F_law_cross.kp S.b_law_cross .nil (fun _ => .nil) takes0 (acons (dv 0) (acons (dv 7) (acons (dv 9) anil)))))))
   (bone (sapp (dv 6) (dtup (acons (dv 7) (acons (dv 8) anil))))) bnil)))))
  (bone (spub 6 (sif (tcmp (op_neD (hu64 hr)) lr_neP (dv 6) (dlst anil) (nomark _))
   (bone (sapp (dv 2) (dix ix_list lr_ixL (dv 6) di))) (bone (sapp (dv 3) (dtup (acons (dv 5) (acons (dct call_list_of lc_listL S.n_list PyProof.Rows.boot_list (acons (dv 2) anil)) anil))))))))))))
  (bone (sret (dtup (acons (dpub (dv 2)) (acons (dpub (dv 3)) anil))))))))
  · exact dr_len (m := 1) (fun _ => rfl) h
  · intro ss st ok ex h
    unfold ctLTaken at h
    rw [ctDr_eq] at h
    obtain ⟨b, l, k0, rfl, hb, hl, hk0, k⟩ := h
    walk_at "zz"
    intro p hp
    walk_at "zz"
    intro q hq
    walk_at "w"
    refine dr_at () rfl hb hl trivial ?_
    walk_at "w"
    refine loop_fold (wishes b l) epD (tmStep b l k0) ([], []) (fun s Δ' st' => ∃ v5 v6 v7 v8 v9 v10, Δ' = [.dat (drawnD b l), dI (k0 : Int), .own p, .own q, .dat (groupsD b l), v5, v6, v7, v8, v9, v10] ∧ st' = (q, .lst (s.2.map fun x => .dat (missD x))) :: (p, .lst (s.1.map fun x => .dat (tkD x))) :: st) (by unfold keysTD; rw [List.map_map]; rfl) ⟨.un, .un, .un, .un, .un, .un, rfl, rfl⟩ ?_ ?_
    · rintro pre e post s Δ' st' has hs ⟨v5, v6, v7, v8, v9, v10, rfl, rfl⟩
      have hs1 := tm_fst b l k0 pre
      rw [← hs] at hs1
      obtain ⟨inv, hne⟩ := pinv_pre hl k0 has
      rw [← hs1] at inv
      have hpl : pre.length ≤ 10 := by
        have := wishes_len (b := b) hl
        rw [has, List.length_append] at this
        omega
      have hs2 : s.2.length ≤ 10 := by
        have := tm_len b l k0 pre
        rw [← hs] at this
        omega
      have hme : e ∈ wishes b l := by rw [has]; simp
      walk_at "zz"
      intro r hr
      walk_at "w"
      refine ⟨epKey e, _, rfl, get_group hme, ?_⟩
      walk_at "w"
      have hpok : s.1.length ≤ 10 := Nat.le_trans inv.len hpl
      refine loop_fold (sendsOf b l e) (fun n => .str n) (fun f n => f ++ freesOf (windows b l) s.1 k0 n) [] (fun f Δ' st' => ∃ v7 v8 v9 v10, Δ' = [.dat (drawnD b l), dI (k0 : Int), .own p, .own q, .dat (groupsD b l), .dat (epD e), .own r, v7, v8, v9, v10] ∧ st' = (r, .lst (f.map fun x => .dat (tkD x))) :: (q, .lst (s.2.map fun x => .dat (missD x))) :: (p, .lst (s.1.map fun x => .dat (tkD x))) :: st) (by rw [List.map_map]; rfl) ⟨v7, v8, v9, v10, rfl, rfl⟩ ?_ ?_
      · rintro pre2 n post2 f Δ' st' has2 hs3 ⟨v7, v8, v9, v10, rfl, rfl⟩
        have hm : n ∈ sendsOf b l e := by rw [has2]; simp
        obtain ⟨x, hx, rfl, _⟩ := sends_mem.mp hm
        have hfl : f.length ≤ 10 * pre2.length := by
          rw [hs3, fold_flat, List.nil_append]
          exact flat_len _ _ _ _ hk0
        have hp2 : pre2.length ≤ 9 := by
          have := sends_len (b := b) hl e
          rw [has2, List.length_append, List.length_cons] at this
          omega
        walk_at "w"
        refine ⟨by omega, by omega, ?_⟩
        walk_at "w"
        refine loop_fold (List.range k0) (fun i => .int (0 + (i : Int))) (fun g i => if isFree (windows b l) s.1 x.n i = true then g ++ [(x.n, (i : Int))] else g) f (fun g Δ' st' => ∃ v8 v9 v10, Δ' = [.dat (drawnD b l), dI (k0 : Int), .own p, .own q, .dat (groupsD b l), .dat (epD e), .own r, .dat (.str x.n), v8, v9, v10] ∧ st' = (r, .lst (g.map fun x => .dat (tkD x))) :: (q, .lst (s.2.map fun x => .dat (missD x))) :: (p, .lst (s.1.map fun x => .dat (tkD x))) :: st) (by unfold rngS; simp) ⟨v8, v9, v10, rfl, rfl⟩ ?_ ?_
        · rintro pre3 i post3 g Δ' st' has3 hs4 ⟨v8, v9, v10, rfl, rfl⟩
          rw [Int.zero_add]
          walk_at "w"
          refine ⟨2, _, rfl, ?_⟩
          refine lcO_pure s.1 tkD (fun y => if decide (y.2 = (i : Int)) = true then some (.bl (overlap (winOf (windows b l) y.1) (winOf (windows b l) x.n))) else none) rfl (j := 2) rfl ?_ ?_
          · intro i2 y D acc hi hD J
            obtain ⟨⟨w, hw, e1, _⟩, _⟩ := inv.mem y (List.mem_of_getElem? hi)
            have ew : winOf (windows b l) y.1 = w.win := by unfold winOf; rw [← e1, win_look hl hw]; rfl
            have ex2 : winOf (windows b l) x.n = x.win := by unfold winOf; rw [win_look hl hx]; rfl
            walk_at "w"
            refine ⟨rfl, ?_⟩
            walk_at "w"
            refine ⟨fun h => ?_, fun h => ?_⟩
            · walk_at "w"
              refine dr_at (x, w) (by rw [← e1]; rfl) hb hl ⟨hx, hw⟩ ?_
              walk_at "w"
              exact lc_yes (Nat.le_trans hpok (by decide)) hi J (by rw [ew, ex2]; exact if_pos h)
            · walk_at "w"
              exact lc_no hi J (if_neg (by rw [show decide (y.2 = (i : Int)) = false from h]; decide))
          rw [fm_if]
          walk_at "w"
          refine ⟨.bool true, (((s.1.filter fun y => decide (y.2 = (i : Int))).map fun y => overlap (winOf (windows b l) y.1) (winOf (windows b l) x.n)).map PyData.bool), .bl true, ?_, true_shaped, bools_lay _, ?_⟩
          · have := bools_of ((s.1.filter fun y => decide (y.2 = (i : Int))).map fun y => overlap (winOf (windows b l) y.1) (winOf (windows b l) x.n))
            rw [List.map_map] at this
            exact this
          rw [bools_any]
          refine ⟨fun h => ?_, fun h => ?_⟩
          · have h' : isFree (windows b l) s.1 x.n i = true := h
            rw [if_pos h']
            walk_at "w"
            refine ⟨⟨0, _, rfl⟩, ?_⟩
            walk_at "zz"
            have hgl : g.length ≤ 100 := by
              rw [hs4, fold_filter, List.length_append, List.length_map]
              have h1 := List.length_filter_le (isFree (windows b l) s.1 x.n) pre3
              have h2 := congrArg List.length has3
              rw [List.length_range, List.length_append, List.length_cons] at h2
              omega
            refine ⟨0, _, rfl, by rw [List.length_map, sizeLine_eq]; omega, ?_⟩
            walk_at "w"
            exact ⟨_, _, _, rfl, by rw [List.map_append]; rfl⟩
          · have h' : ¬ isFree (windows b l) s.1 x.n i = true := by rw [show isFree (windows b l) s.1 x.n i = false from h]; decide
            rw [if_neg h']
            walk_at "w"
            exact ⟨_, _, _, rfl, rfl⟩
        · rintro Δ' st' ⟨v8, v9, v10, rfl, rfl⟩
          rw [fold_filter]
          exact ⟨_, _, _, _, rfl, rfl⟩
      · rintro Δ' st' ⟨v7, v8, v9, v10, rfl, rfl⟩
        rw [fold_flat, List.nil_append]
        walk_at "w"
        have hhead := frees_head (ws := windows b l) inv.nd k0 (sendsOf b l e)
        refine ⟨.own r, .dat (takenD (freesAll (windows b l) s.1 k0 (sendsOf b l e))), _, rfl, (fun z => by cases z), .pub (j := 0) rfl (.lst (allD_of _ _)) hr (.cons _ (List.Sublist.refl _)), ?_⟩
        walk_at "zz"
        refine ⟨.list ((freesAll (windows b l) s.1 k0 (sendsOf b l e)).map tkP), .list [], .lst (tks_of _), .lst .nil, tks_shaped _ (fun x hx => frees_word hl hx), nil_shaped, ?_⟩
        rw [tks_nil]
        cases hF : freesAll (windows b l) s.1 k0 (sendsOf b l e) with
        | nil =>
          rw [hF] at hhead
          have hst : tmStep b l k0 s e = (s.1, s.2 ++ [(e, s.1)]) := by unfold tmStep; rw [← hhead]; rfl
          rw [hst]
          refine ⟨fun h => absurd h Bool.false_ne_true, fun _ => ?_⟩
          walk_at "w"
          refine ⟨⟨0, _, rfl⟩, ?_⟩
          walk_at "w"
          refine ⟨1, _, rfl, s.1.map tkD, allD_of _ _, ?_⟩
          walk_at "zz"
          refine ⟨0, _, rfl, by rw [List.length_map, sizeLine_eq]; omega, ?_⟩
          walk_at "w"
          exact ⟨_, _, _, _, _, _, rfl, by rw [List.map_append]; rfl⟩
        | cons y ys =>
          rw [hF] at hhead
          have hst : tmStep b l k0 s e = (s.1 ++ [y], s.2) := by unfold tmStep; rw [← hhead]; rfl
          rw [hst]
          refine ⟨fun _ => ?_, fun h => absurd h.symm Bool.false_ne_true⟩
          walk_at "w"
          refine ⟨⟨1, _, rfl⟩, ?_⟩
          walk_at "w"
          refine ⟨.dat (tkD y), atI_get (Int.le_refl 0) rfl, ?_⟩
          walk_at "w"
          refine ⟨1, _, rfl, by rw [List.length_map, sizeLine_eq]; omega, ?_⟩
          walk_at "w"
          exact ⟨_, _, _, _, _, _, rfl, by rw [List.map_append]; rfl⟩
    · rintro Δ' st' ⟨v5, v6, v7, v8, v9, v10, rfl, rfl⟩
      rw [tm_all]
      walk_at "w"
      have hpq : p ∉ keys ((q, Ob.lst ((missed b l k0 (wishes b l) []).map fun x => Sv.dat (missD x))) :: st) := fun z => by
        rcases List.mem_cons.mp z with z | z
        · exact hq (by rw [show p = q from z]; exact List.mem_cons_self)
        · exact hp z
      refine ⟨.dat (takenD (taken b l k0)), _, .pub (j := 1) rfl (.lst (allD_of _ _)) hpq (.cons_cons _ (.cons _ (List.Sublist.refl _))), ?_⟩
      walk_at "w"
      refine ⟨.dat (.lst ((missed b l k0 (wishes b l) []).map missD)), st, .pub (j := 0) rfl (.lst (allD_of _ _)) (fun z => hq (List.mem_cons_of_mem _ z)) (.cons _ (List.Sublist.refl _)), ?_⟩
      walk_at "zz"
      walk_at "f"
      exact k
theorem ok_law_stored (S : En K mg) : FnOk P w K mg base (L2.CX P w) 3 S.f_law_stored S.d_law_stored ["_law_drawn_here", "_law_taken_here", "_law_minutes", "_law_safe"] (lowF K ctLStored) := by
  refine fn_low _ S.F_law_stored sc_law_stored (fun ss st ok ex h => ?_) ?_ (fun cdv A outer s H E hr tk po => (bcons (sparC4 4 5 6 7 sc_law_stored.nd (acons (dlstO anil) (acons (dlstO anil) (acons (dlstO anil) (acons (dlstO anil) anil)))))
  (bcons (sfor po (iL (dv 1)) (gtup 2 (gscons (gname 8 sc_law_stored.nd) (gscons (gname 9 sc_law_stored.nd) gsnil)))
   (bcons (sasgG (dcall (dds := []) (ok_law_window S) (hr.mono (by decide)) S.g_law_window S.F_law_window.kp S.b_law_window .nil (fun _ => .nil) tk (acons (dv 0) (acons (dv 8) anil))) (gtup 2 (gscons (gname 10 sc_law_stored.nd) (gscons (gname 11 sc_law_stored.nd) gsnil))))
  (bone (sapp (dv 4) (dtup (acons (dv 10) (acons (dv 8) (acons (dop op_sub lr_sub (dv 11) (dv 10)) anil))))))))
  (bcons (sset 12 sc_law_stored.nd (dct (call_dictP rfl) lc_dictP S.n_dict PyProof.Rows.boot_dict (acons (dlcO [("_law_begin", 10), ("_law_name", 8), ("_law_size", 13)] sc_law_stored.nd (dv 4) (blkOk_by (N := ["_law_drawn_here", "_law_taken_here", "_law_minutes", "_law_safe", "_law_rows", "_law_kept", "_law_deleted", "_law_refused_here", "_law_name", "_law_place", "_law_begin", "_law_end", "_law_sizes", "_law_size", "_law_one"]) (sc := defScope s_law_stored) (by decide +kernel)) (fun _ _ _ _ _ => (gwtup 3 (gswcons (gwname 10 sc_law_stored.nd) (gswcons (gwname 8 sc_law_stored.nd) (gswcons (gwname 13 sc_law_stored.nd) gswnil))))) (fun _ _ _ _ _ => tsnil) (fun _ _ _ _ _ => (dtup (acons (dv 8) (acons (dv 13) anil))))) anil)))
  (bcons (sfor po (iL (dcb (cr_sortP (hu65 hr)) lc_sortP S.n_sorted PyProof.Rows.boot_sorted (acons (dv 4) anil))) (gtup 3 (gscons (gname 10 sc_law_stored.nd) (gscons (gname 8 sc_law_stored.nd) (gscons (gname 13 sc_law_stored.nd) gsnil))))
   (bone (sif (tcmp op_gt lr_gt (dop op_add lr_add (dv 13) (dcb (cr_sum rfl) lc_sum S.n_sum PyProof.Rows.boot_sum (acons (dlcO [("_law_one", 14)] sc_law_stored.nd (dv 5) (blkOk_by (N := ["_law_drawn_here", "_law_taken_here", "_law_minutes", "_law_safe", "_law_rows", "_law_kept", "_law_deleted", "_law_refused_here", "_law_name", "_law_place", "_law_begin", "_law_end", "_law_sizes", "_law_size", "_law_one"]) (sc := defScope s_law_stored) (by decide +kernel)) (fun _ _ _ _ _ => (gwname 14 sc_law_stored.nd)) (fun _ _ _ _ _ => (tsone (tsIn hr (dv 14) (dv 3)))) (fun _ _ _ _ _ => (ddget (hu1 hr) (dv 12) (dv 14)))) anil))) (dv 2) (nomark _))
   (bone (sapp (dv 7) (dv 8))) (bcons (swhile po (tcmp op_gt lr_gt (dop op_add lr_add (dv 13) (dcb (cr_sum rfl) lc_sum S.n_sum PyProof.Rows.boot_sum (acons (dlcO [("_law_one", 14)] sc_law_stored.nd (dv 5) (blkOk_by (N := ["_law_drawn_here", "_law_taken_here", "_law_minutes", "_law_safe", "_law_rows", "_law_kept", "_law_deleted", "_law_refused_here", "_law_name", "_law_place", "_law_begin", "_law_end", "_law_sizes", "_law_size", "_law_one"]) (sc := defScope s_law_stored) (by decide +kernel)) (fun _ _ _ _ _ => (gwname 14 sc_law_stored.nd)) (fun _ _ _ _ _ => tsnil) (fun _ _ _ _ _ => (ddget (hu1 hr) (dv 12) (dv 14)))) anil))) (dv 2) (nomark _))
   (bcons (sapp (dv 6) (dix ix_list lr_ixL (dlcO [("_law_one", 14)] sc_law_stored.nd (dv 5) (blkOk_by (N := ["_law_drawn_here", "_law_taken_here", "_law_minutes", "_law_safe", "_law_rows", "_law_kept", "_law_deleted", "_law_refused_here", "_law_name", "_law_place", "_law_begin", "_law_end", "_law_sizes", "_law_size", "_law_one"]) (sc := defScope s_law_stored) (by decide +kernel)) (fun _ _ _ _ _ => (gwname 14 sc_law_stored.nd)) (fun _ _ _ _ _ => (tsone (tsNi hr (dv 14) (dv 3)))) (fun _ _ _ _ _ => (dv 14))) di))
  (bone (srem (dv 5) (dix ix_list lr_ixL (dv 6) (dneg di))))))
  (bone (sapp (dv 5) (dv 8)))))))
  (bone (sret (dtup (acons (dpub (dv 5)) (acons (dpub (dv 6)) (acons (dpub (dv 7)) anil)))))))))))
  · exact dr_len (m := 3) (fun _ => rfl) h
  · intro ss st ok ex h
    unfold ctLStored at h
    rw [ctDr_eq] at h
    obtain ⟨b, l, ⟨p, m, t⟩, rfl, hb, hl, ⟨⟨k0, hk0, hp⟩, ht⟩, k⟩ := h
    dsimp only at hp ht k
    have inv := taken_inv (b := b) hl k0
    have hp10 : p.length ≤ 10 := by rw [hp]; exact Nat.le_trans inv.len (wishes_len hl)
    have hpw : ∀ x ∈ p, ∃ w ∈ wished b l, w.n = x.1 := fun x hx => by
      rw [hp] at hx
      obtain ⟨⟨w, hw, e1, _⟩, _⟩ := inv.mem x hx
      exact ⟨w, hw, e1⟩
    walk_at "w"
    refine ⟨Nat.zero_le _, ?_⟩
    walk_at "w"
    intro pr hpr
    walk_at "w"
    refine ⟨Nat.zero_le _, ?_⟩
    walk_at "w"
    intro pk hpk
    walk_at "w"
    refine ⟨Nat.zero_le _, ?_⟩
    walk_at "w"
    intro pd hpd
    walk_at "w"
    refine ⟨Nat.zero_le _, ?_⟩
    walk_at "w"
    intro pf hpf
    walk_at "w"
    refine loop_fold p tkD (fun s x => s ++ [((winOf (windows b l) x.1).1, x.1, (winOf (windows b l) x.1).2 - (winOf (windows b l) x.1).1)]) ([] : List Tr) (fun rs Δ' st' => ∃ v8 v9 v10 v11 v12 v13 v14, Δ' = [.dat (drawnD b l), .dat (takenD p), dI m, .dat (nsD t), .own pr, .own pk, .own pd, .own pf, v8, v9, v10, v11, v12, v13, v14] ∧ st' = (pf, .lst []) :: (pd, .lst []) :: (pk, .lst []) :: (pr, .lst (rs.map fun r => .dat (trD r))) :: st) (by rw [List.map_map]; rfl) ⟨_, _, _, _, _, _, _, rfl, rfl⟩ ?_ ?_
    · rintro pre x post rs Δ' st' has hs ⟨v8, v9, v10, v11, v12, v13, v14, rfl, rfl⟩
      have hxp : x ∈ p := by rw [has]; simp
      obtain ⟨w, hw, e1⟩ := hpw x hxp
      walk_at "w"
      refine ⟨rfl, ?_⟩
      walk_at "w"
      refine dr_at w (by rw [e1]; rfl) hb hl hw ?_
      walk_at "w"
      refine ⟨rfl, ?_⟩
      walk_at "w"
      have hwo : winOf (windows b l) x.1 = w.win := by rw [← e1]; exact win_of hl hw
      rw [fold_snoc (fun x : Str × Int => ((winOf (windows b l) x.1).1, x.1, (winOf (windows b l) x.1).2 - (winOf (windows b l) x.1).1)), List.nil_append] at hs
      have hrl : rs.length ≤ 10 := by
        rw [hs, List.length_map]
        have := congrArg List.length has
        rw [List.length_append, List.length_cons] at this
        omega
      refine ⟨⟨3, _, rfl⟩, ?_⟩
      walk_at "w"
      refine ⟨by show 3 ≤ sizeLine; rw [sizeLine_eq]; decide, ?_⟩
      walk_at "w"
      refine ⟨3, _, rfl, by rw [List.length_map, sizeLine_eq]; omega, ?_⟩
      walk_at "w"
      refine ⟨_, _, _, _, _, _, _, rfl, ?_⟩
      rw [List.map_append, hwo]
      rfl
    · rintro Δ' st' ⟨v8, v9, v10, v11, v12, v13, v14, rfl, rfl⟩
      rw [fold_snoc (fun x : Str × Int => ((winOf (windows b l) x.1).1, x.1, (winOf (windows b l) x.1).2 - (winOf (windows b l) x.1).1)), List.nil_append]
      rw [show (p.map fun x : Str × Int => ((winOf (windows b l) x.1).1, x.1, (winOf (windows b l) x.1).2 - (winOf (windows b l) x.1).1)) = rowsT b l p from rfl]
      obtain ⟨rs, hrs⟩ : ∃ rs, rs = rowsT b l p := ⟨_, rfl⟩
      have hrl : rs.length ≤ 10 := by rw [hrs]; unfold rowsT; rw [List.length_map]; exact hp10
      have hsz : sizesT b l p = (rs.mergeSort trLe).map fun r => (r.2.1, r.2.2) := by rw [hrs]; rfl
      have hok : SzOk (sizesT b l p) := by rw [hp]; unfold sizesT; rw [rowsT_sizes hl]; exact sizes_ok hb hl k0
      have hperm : (rs.mergeSort trLe).Perm rs := List.mergeSort_perm _ _
      have hndr : (rs.map fun r => r.2.1).Nodup := by
        have := hok.nd
        rw [hsz, List.map_map] at this
        exact (hperm.map _).nodup_iff.mp this
      rw [← hrs]
      obtain ⟨sz, hsz2⟩ : ∃ sz, sz = sizesT b l p := ⟨_, rfl⟩
      rw [← hsz2] at hok hsz k
      walk_at "w"
      refine ⟨3, _, rfl, ?_⟩
      refine lcO_pure rs trD (fun r => some (.tup [.str r.2.1, .int r.2.2])) rfl (j := 3) rfl ?_ ?_
      · intro i r D acc hi hD J
        walk_at "w"
        refine ⟨rfl, ?_⟩
        walk_at "ss"
        walk_at "w"
        refine ⟨by show 2 ≤ sizeLine; rw [sizeLine_eq]; decide, ?_⟩
        exact lc_yes (by rw [sizeLine_eq]; omega) hi J rfl
      rw [fm_some]
      walk_at "w"
      refine ⟨_, (rs.map fun r => ((r.2.1, Dt.int r.2.2) : Str × Dt)).map prK, ?_, pairs_str _, ?_⟩
      · have e : ∀ xs : List Sv, xs = ((rs.map fun r => ((r.2.1, Dt.int r.2.2) : Str × Dt)).map fun x => Dt.tup [.str x.1, x.2]).map Sv.dat → AllD xs ((rs.map fun r => ((r.2.1, Dt.int r.2.2) : Str × Dt)).map fun x => Dt.tup [.str x.1, x.2]) := fun xs e => by rw [e]; exact .map _
        refine e _ ?_
        simp only [List.map_map]
        rfl
      obtain ⟨su, hsu⟩ : ∃ su : Sz, su = rs.map fun r => (r.2.1, r.2.2) := ⟨_, rfl⟩
      have hdn : (((rs.map fun r => ((r.2.1, Dt.int r.2.2) : Str × Dt)).map prK).map (·.1)).Nodup := by
        have := nodup_inr hndr
        rw [List.map_map] at this
        simp only [List.map_map]
        exact this
      rw [putDs_nd _ hdn]
      have hdic : Dt.dic ((rs.map fun r => ((r.2.1, Dt.int r.2.2) : Str × Dt)).map prK) = dicD .int su := by
        unfold dicD
        rw [hsu, List.map_map, List.map_map]
        rfl
      rw [hdic]
      have hlook : ∀ n, look su n = look sz n := fun n => by
        rw [hsu, hsz]
        exact look_permN (by rw [List.map_map]; exact hndr) (hperm.map _).symm n
      simp only [List.set_cons_succ, List.set_cons_zero]
      walk_at "w"
      refine ⟨3, _, rfl, ?_⟩
      walk_at "w"
      refine ⟨Tr, rs, trD, trP, by first | rfl | (rw [List.map_map]; rfl), tr_of, tr_alike _, tr_sortable _, fun r _ => tr_depth r, ?_⟩
      rw [show rs.mergeSort (PySem.W.dataLe false trP) = rs.mergeSort trLe from rfl]
      obtain ⟨T, hT⟩ : ∃ T, T = rs.mergeSort trLe := ⟨_, rfl⟩
      rw [← hT] at hsz hperm ⊢
      walk_at "w"
      refine loop_fold T trD (fun a r => dkStep sz t m a (r.2.1, r.2.2)) ⟨[], [], []⟩ (fun a Δ' st' => ∃ v8 v10 v13 v14, Δ' = [.dat (drawnD b l), .dat (takenD p), dI m, .dat (nsD t), .own pr, .own pk, .own pd, .own pf, v8, v9, v10, v11, .dat (dicD .int su), v13, v14] ∧ st' = (pf, Ob.lst (a.ref.map fun n => .dat (.str n))) :: (pd, Ob.lst (a.del.map fun n => .dat (.str n))) :: (pk, Ob.lst (a.kept.map fun n => .dat (.str n))) :: (pr, .lst (rs.map fun r => .dat (trD r))) :: st) (by rw [List.map_map]; rfl) ⟨_, _, _, _, rfl, rfl⟩ ?_ ?_
      · rintro pre ⟨bg, x⟩ post a Δ' st' has hs ⟨v8, v10, v13, v14, rfl, rfl⟩
        have hs2 : a = (pre.map fun r => (r.2.1, r.2.2)).foldl (dkStep sz t m) ⟨[], [], []⟩ := by rw [hs, List.foldl_map]
        have has2 : sz = (pre.map fun r => (r.2.1, r.2.2)) ++ x :: post.map fun r => (r.2.1, r.2.2) := by rw [hsz, has, List.map_append, List.map_cons]
        obtain ⟨pre2, hpre2⟩ : ∃ pre2, pre2 = pre.map fun r : Tr => ((r.2.1, r.2.2) : Str × Int) := ⟨_, rfl⟩
        rw [← hpre2] at hs2 has2
        have inv : DkI sz pre2 a := by rw [hs2]; exact disk_pre sz t m pre2
        have hks : ∀ n ∈ sz.map (·.1), isWord n = true ∧ ∃ v, look sz n = some v := fun n hn => by
          obtain ⟨x, hx, rfl⟩ := List.mem_map.mp hn
          exact ⟨hok.word x hx, x.2, hok.look hx⟩
        have hxs : x ∈ sz := by rw [has2]; simp
        have hpre : ∀ n ∈ pre2.map (·.1), n ∈ sz.map (·.1) := fun n hn => by rw [has2, List.map_append]; exact List.mem_append_left _ hn
        have hprel : pre2.length ≤ 9 := by
          have h1 := congrArg List.length has2
          rw [List.length_append, List.length_cons] at h1
          have := hok.len
          omega
        have hg : ∀ n v, look sz n = some v → getD ((su.map fun x => ((Sum.inr x.1 : Key), Dt.int x.2)).map fun kv => (kv.1, Sv.dat kv.2)) (.inr n) = some (.dat (.int ((look sz n).getD 0))) := fun n v hv => by
          rw [getD_dic Dt.int su n, hlook, hv]
          rfl
        have hkept : ∀ n ∈ a.kept, isWord n = true ∧ ∃ v, look sz n = some v := fun n hn => hks n (hpre n (inv.kept.subset hn))
        have hlen := inv.len
        walk_at "w"
        refine ⟨rfl, ?_⟩
        walk_at "w"
        refine ⟨2, _, rfl, ?_⟩
        refine lcO_pure a.kept .str (fun n => if isIn t n = true then some (.int ((look sz n).getD 0)) else none) rfl (j := 2) rfl ?_ ?_
        · intro i3 n D acc hi D2 J
          obtain ⟨hn, v, hv⟩ := hkept n (List.mem_of_getElem? hi)
          walk_at "ss"
          refine ⟨txtP n, t.map txtP, txt_of _, txts_of _, txt_shaped _ hn, txts_lay _ ht, ?_⟩
          rw [txt_any]
          refine ⟨fun h => ?_, fun h => ?_⟩
          · walk_at "w"
            refine ⟨.inr n, _, rfl, hg n v hv, ?_⟩
            walk_at "w"
            exact lc_yes (by rw [sizeLine_eq]; omega) hi J (if_pos h)
          · exact lc_no hi J (if_neg (by unfold isIn; have h : decide (n ∈ t) = false := h; rw [h]; decide))
        rw [fm_if]
        walk_at "w"
        refine ⟨(a.kept.filter (isIn t)).map fun n => (look sz n).getD 0, by first | rfl | (rw [List.map_map, List.map_map]; rfl), ?_⟩
        rw [show ((a.kept.filter (isIn t)).map fun n => (look sz n).getD 0).sum = mins sz (a.kept.filter (isIn t)) from rfl]
        walk_at "w"
        refine ⟨fun c => ?_, fun c => ?_⟩
        · have c := of_decide_eq_true c
          have c : m - mins sz (a.kept.filter (isIn t)) < x.2 := by dsimp only at c; omega
          obtain ⟨e1, _⟩ := inv.refuse (x := x) (t := t) (m := m) c
          walk_at "w"
          refine ⟨⟨0, _, rfl⟩, ?_⟩
          walk_at "w"
          refine ⟨0, _, rfl, by rw [List.length_map, sizeLine_eq]; omega, ?_⟩
          walk_at "w"
          refine ⟨_, _, _, _, rfl, ?_⟩
          rw [e1, List.map_append]
          rfl
        · have c := of_decide_eq_false c
          have c : ¬ m - mins sz (a.kept.filter (isIn t)) < x.2 := by dsimp only at c; omega
          walk_at "w"
          rw [whileD_eq]
          refine ⟨fun n Δ' st' => ∃ kept del v14, EvI sz pre2 t m x.2 a n kept del ∧ Δ' = [.dat (drawnD b l), .dat (takenD p), dI m, .dat (nsD t), .own pr, .own pk, .own pd, .own pf, .dat (.str x.1), v9, dI bg, v11, .dat (dicD .int su), dI x.2, v14] ∧ st' = (pf, Ob.lst (a.ref.map fun n => .dat (.str n))) :: (pd, Ob.lst (del.map fun n => .dat (.str n))) :: (pk, Ob.lst (kept.map fun n => .dat (.str n))) :: (pr, .lst (rs.map fun r => .dat (trD r))) :: st, ⟨_, a.kept, a.del, _, EvI.start inv c, rfl, rfl⟩, ?_⟩
          rintro n Δ' st' ⟨kept, del, v14, ev, rfl, rfl⟩
          have hkept2 : ∀ n ∈ kept, isWord n = true ∧ ∃ v, look sz n = some v := fun n hn => hks n (hpre n (ev.sub.subset hn))
          have hdl := ev.dl
          walk_at "w"
          refine ⟨2, _, rfl, ?_⟩
          refine lcO_pure kept .str (fun n => some (.int ((look sz n).getD 0))) rfl (j := 2) rfl ?_ ?_
          · intro i3 n D acc hi D2 J
            obtain ⟨hn, v, hv⟩ := hkept2 n (List.mem_of_getElem? hi)
            walk_at "ss"
            refine ⟨.inr n, _, rfl, hg n v hv, ?_⟩
            walk_at "w"
            exact lc_yes (by rw [sizeLine_eq]; omega) hi J rfl
          rw [fm_some]
          walk_at "w"
          refine ⟨kept.map fun n => (look sz n).getD 0, by first | rfl | (rw [List.map_map, List.map_map]; rfl), ?_⟩
          rw [show (kept.map fun n => (look sz n).getD 0).sum = mins sz kept from rfl]
          walk_at "w"
          refine ⟨fun c2 => ?_, fun c2 => ?_⟩
          · have c2 := of_decide_eq_true c2
            have c2 : m < mins sz kept + x.2 := by omega
            obtain ⟨e, es, he, hem⟩ := ev.first c2
            obtain ⟨n', hn', ev'⟩ := ev.step c2 he
            obtain ⟨i, hi1, hi2, hi3⟩ := first_atT hem
            walk_at "w"
            refine ⟨⟨1, _, rfl⟩, ?_⟩
            walk_at "w"
            refine ⟨2, _, rfl, ?_⟩
            refine lcO_pure kept .str (fun n => if (!isIn t n) = true then some (.str n) else none) rfl (j := 2) rfl ?_ ?_
            · intro i3 n D acc hi D2 J
              have hn := (hkept2 n (List.mem_of_getElem? hi)).1
              walk_at "ss"
              refine ⟨txtP n, t.map txtP, txt_of _, txts_of _, txt_shaped _ hn, txts_lay _ ht, ?_⟩
              rw [txt_any]
              refine ⟨fun h => ?_, fun h => ?_⟩
              · exact lc_yes (by rw [sizeLine_eq]; omega) hi J (if_pos h)
              · exact lc_no hi J (if_neg (by unfold isIn; have h : (!decide (n ∈ t)) = false := h; rw [h]; decide))
            rw [fm_if, he]
            walk_at "w"
            refine ⟨.dat (.str e), atI_get (by decide) rfl, ?_⟩
            walk_at "w"
            refine ⟨1, _, rfl, by rw [List.length_map, sizeLine_eq]; omega, ?_⟩
            walk_at "w"
            refine ⟨⟨2, _, rfl⟩, ?_⟩
            walk_at "w"
            refine ⟨1, _, rfl, ?_⟩
            walk_at "w"
            refine ⟨.dat (.str e), at_last _ _, ?_⟩
            walk_at "w"
            refine ⟨2, kept, i, rfl, hi1, hi2, ?_⟩
            walk_at "w"
            refine ⟨n', hn', kept.erase e, del ++ [e], _, ev', rfl, ?_⟩
            rw [hi3, List.map_append]
            rfl
          · have c2 := of_decide_eq_false c2
            have c2 : ¬ m < mins sz kept + x.2 := by omega
            obtain ⟨e1, _⟩ := ev.done inv.ref c c2
            walk_at "w"
            refine ⟨⟨2, _, rfl⟩, ?_⟩
            walk_at "w"
            refine ⟨2, _, rfl, by rw [List.length_map, sizeLine_eq]; omega, ?_⟩
            walk_at "w"
            refine ⟨_, _, _, _, rfl, ?_⟩
            rw [e1, List.map_append]
            rfl
      · rintro Δ' st' ⟨v8, v10, v13, v14, rfl, rfl⟩
        rw [show T.foldl (fun a r => dkStep sz t m a (r.2.1, r.2.2)) ⟨[], [], []⟩ = diskOf sz t m from by unfold diskOf; rw [hsz, List.foldl_map]]
        have pkr : pk ≠ pr := fun z => hpk (by rw [z]; exact List.mem_cons_self)
        have pks : pk ∉ keys st := fun z => hpk (List.mem_cons_of_mem _ z)
        have pdk : pd ≠ pk := fun z => hpd (by rw [z]; exact List.mem_cons_self)
        have pdr : pd ≠ pr := fun z => hpd (by rw [z]; exact List.mem_cons_of_mem _ List.mem_cons_self)
        have pds : pd ∉ keys st := fun z => hpd (List.mem_cons_of_mem _ (List.mem_cons_of_mem _ z))
        have pfd : pf ≠ pd := fun z => hpf (by rw [z]; exact List.mem_cons_self)
        have pfk : pf ≠ pk := fun z => hpf (by rw [z]; exact List.mem_cons_of_mem _ List.mem_cons_self)
        have pfr : pf ≠ pr := fun z => hpf (by rw [z]; exact List.mem_cons_of_mem _ (List.mem_cons_of_mem _ List.mem_cons_self))
        have pfs : pf ∉ keys st := fun z => hpf (List.mem_cons_of_mem _ (List.mem_cons_of_mem _ (List.mem_cons_of_mem _ z)))
        walk_at "w"
        refine ⟨.dat (namesD (diskOf sz t m).kept), _, .pub (j := 2) rfl (.lst (SP.allD_of _ _)) (fun z => ?_) (.cons₂ _ (.cons₂ _ (.cons _ (List.Sublist.refl _)))), ?_⟩
        · rcases List.mem_cons.mp z with z | z
          · exact pfk z.symm
          rcases List.mem_cons.mp z with z | z
          · exact pdk z.symm
          rcases List.mem_cons.mp z with z | z
          · exact pkr z
          · exact pks z
        walk_at "w"
        refine ⟨.dat (namesD (diskOf sz t m).del), _, .pub (j := 1) rfl (.lst (SP.allD_of _ _)) (fun z => ?_) (.cons₂ _ (.cons _ (List.Sublist.refl _))), ?_⟩
        · rcases List.mem_cons.mp z with z | z
          · exact pfd z.symm
          rcases List.mem_cons.mp z with z | z
          · exact pdr z
          · exact pds z
        walk_at "w"
        refine ⟨.dat (namesD (diskOf sz t m).ref), _, .pub (j := 0) rfl (.lst (SP.allD_of _ _)) (fun z => ?_) (.cons _ (List.Sublist.refl _)), ?_⟩
        · rcases List.mem_cons.mp z with z | z
          · exact pfr z
          · exact pfs z
        walk_at "w"
        refine ⟨by show 3 ≤ sizeLine; rw [sizeLine_eq]; decide, ?_⟩
        walk_at "w"
        exact ⟨_, st, .keep (.cons _ (List.Sublist.refl _)), k⟩
theorem ok_law (S : En K mg) (TB : LamX.TabB base mg S.tc_law S.tp_law) : FnOk P w K mg base (L2.CX P w) 13 S.f_law S.d_law ["_law_script"] (lowF K (ctLawT S.tp_law)) := by
  refine fn_lowL _ S.F_law S.dc_law sc_law (fun ss st ok ex h => ?_) ?_ (fun A outer s H E cl hr tk po hcl => (bcons (sset 1 sc_law.nd (dcall (dds := []) (ok_law_mix S) (hr.mono (by decide)) S.g_law_mix S.F_law_mix.kp S.b_law_mix .nil (fun _ => .nil) tk (acons (dv 0) (acons di anil))))
  (bcons (sfor po (iR S.n_range (acons di anil)) (gname 2 sc_law.nd)
   (bcons (sparC 3 4 sc_law.nd (acons (dcall (dds := []) (ok_law_drawn S) (hr.mono (by decide)) S.g_law_drawn S.F_law_drawn.kp S.b_law_drawn .nil (fun _ => .nil) tk (acons (dv 1) (acons di anil))) (acons (dop op_add lr_add di (dcall (dds := []) (ok_law_next S) (hr.mono (by decide)) S.g_law_next S.F_law_next.kp S.b_law_next .nil (fun _ => .nil) tk (acons (dv 1) (acons di anil)))) anil)))
  (bcons (sparC 5 6 sc_law.nd (acons (dcall (dds := []) (ok_law_listing S) (hr.mono (by decide)) S.g_law_listing S.F_law_listing.kp S.b_law_listing .nil (fun _ => .nil) tk (acons (dix ix_tup lr_ixT (dv 3) di) anil)) (acons (dcall (dds := []) (ok_law_book S) (hr.mono (by decide)) S.g_law_book S.F_law_book.kp S.b_law_book .nil (fun _ => .nil) tk (acons (dix ix_tup lr_ixT (dv 3) di) (acons (dix ix_tup lr_ixT (dv 3) di) anil))) anil)))
  (bcons (sasgG (dcall (dds := []) (ok_law_taken S) (hr.mono (by decide)) S.g_law_taken S.F_law_taken.kp S.b_law_taken .nil (fun _ => .nil) tk (acons (dv 3) (acons (dv 4) anil))) (gtup 2 (gscons (gname 7 sc_law.nd) (gscons (gname 8 sc_law.nd) gsnil))))
  (bcons (sset 9 sc_law.nd (dct call_tuple_of lc_tup S.n_tuple PyProof.Rows.boot_tuple (acons (dlcK [("_law_name", 10)] sc_law.nd (dix ix_tup lr_ixT (dv 3) di) (blkOk_by (N := ["_law_script", "_law_h", "_law_turn", "_law_drawn_here", "_law_receivers", "_law_listing_here", "_law_book_here", "_law_taken_here", "_law_missed", "_law_safe", "_law_name", "_law_minutes", "_law_due", "_law_least", "_law_size", "_law_odd", "_law_works", "_law_work", "_law_long", "_law_rules_here"]) (sc := defScope s_law) (by decide +kernel)) (fun _ _ _ _ _ => (gwname 10 sc_law.nd)) (fun _ _ _ _ _ => (tsone (tcmp op_eq lr_eqS (dcall (dds := []) (ok_law_next S) (hr.mono (by decide)) S.g_law_next S.F_law_next.kp S.b_law_next .nil (fun _ => .nil) takes0 (acons (dv 1) (acons di anil))) di (nomark _)))) (fun _ _ _ _ _ => (dv 10))) anil)))
  (bcons (sfor po (iT (dtup (acons (dop op_add lr_add di (dcall (dds := []) (ok_law_next S) (hr.mono (by decide)) S.g_law_next S.F_law_next.kp S.b_law_next .nil (fun _ => .nil) tk (acons (dv 1) (acons di anil)))) (acons (dop op_add lr_add di (dcall (dds := []) (ok_law_next S) (hr.mono (by decide)) S.g_law_next S.F_law_next.kp S.b_law_next .nil (fun _ => .nil) tk (acons (dv 1) (acons di anil)))) (acons di anil))))) (gname 11 sc_law.nd)
   (bcons (sset 12 sc_law.nd (dcall (dds := []) (ok_law_stored S) (hr.mono (by decide)) S.g_law_stored S.F_law_stored.kp S.b_law_stored .nil (fun _ => .nil) tk (acons (dv 3) (acons (dv 7) (acons (dv 11) (acons (dv 9) anil))))))
  (bone (sif (tnot (tval (dcall (dds := []) (ok_law_alike S 6) (hr.mono (by decide)) S.g_law_alike S.F_law_alike.kp S.b_law_alike .nil (fun _ => .nil) tk (acons (dcall (dds := []) (ok_on_disk S) (hr.mono (by decide)) S.g_on_disk S.F_on_disk.kp S.b_on_disk .nil (fun _ => .nil) tk (acons (dv 6) (acons (dv 5) (acons (dv 4) (acons (dv 11) (acons (dv 9) anil)))))) (acons (dv 12) anil)))))
   (bone (sret db)) bnil))))
  (bcons (ssetLc 13 [("_law_size", 14)] sc_law.nd (iR2 S.n_range (acons di (acons di anil))) (blkOk_by (N := ["_law_script", "_law_h", "_law_turn", "_law_drawn_here", "_law_receivers", "_law_listing_here", "_law_book_here", "_law_taken_here", "_law_missed", "_law_safe", "_law_name", "_law_minutes", "_law_due", "_law_least", "_law_size", "_law_odd", "_law_works", "_law_work", "_law_long", "_law_rules_here"]) (sc := defScope s_law) (by decide +kernel)) (fun _ _ _ _ _ => (gwname 14 sc_law.nd)) (fun _ _ _ _ _ => (tsone (tcmp (op_eqD (hu64 hr)) lr_eqP (dix ix_tup lr_ixT (dcall (dds := []) (ok_law_stored S) (hr.mono (by decide)) S.g_law_stored S.F_law_stored.kp S.b_law_stored .nil (fun _ => .nil) takes0 (acons (dv 3) (acons (dv 7) (acons (dv 14) (acons (dv 9) anil))))) di) (dlst anil) (nomark _)))) (fun _ _ _ _ _ => (dv 14)))
  (bcons (sif (tnot (tval (dcall (dds := []) (ok_law_alike S 6) (hr.mono (by decide)) S.g_law_alike S.F_law_alike.kp S.b_law_alike .nil (fun _ => .nil) tk (acons (dcall (dds := []) (ok_least_disk S) (hr.mono (by decide)) S.g_least_disk S.F_least_disk.kp S.b_least_disk .nil (fun _ => .nil) tk (acons (dv 6) (acons (dv 5) (acons (dv 4) (acons (dv 9) anil))))) (acons (dix ix_list lr_ixL (dv 13) di) anil)))))
   (bone (sret db)) bnil)
  (bcons (sset 15 sc_law.nd (dix ix_list lr_ixL (dlst (acons di (acons (dop op_add lr_add (dop op_pow lr_pow di di) di) (acons db anil)))) (dcall (dds := []) (ok_law_next S) (hr.mono (by decide)) S.g_law_next S.F_law_next.kp S.b_law_next .nil (fun _ => .nil) tk (acons (dv 1) (acons di anil)))))
  (bcons (sset 16 sc_law.nd (dlstO (acons (dlam (q := qLam "law") hcl TB rfl rfl (show ∀ y ∈ (_ : List (Str × NameKind)), y.2 = NameKind.free → (defScope s_law).names.lookup y.1 = some NameKind.cell ∨ (defScope s_law).names.lookup y.1 = some NameKind.free by decide +kernel) (by first | exact ⟨.inl rfl, rfl⟩ | exact ⟨.inr ⟨_, _, rfl⟩, rfl⟩)) (acons (dlam (q := qLam "law") hcl TB rfl rfl (show ∀ y ∈ (_ : List (Str × NameKind)), y.2 = NameKind.free → (defScope s_law).names.lookup y.1 = some NameKind.cell ∨ (defScope s_law).names.lookup y.1 = some NameKind.free by decide +kernel) (by first | exact ⟨.inl rfl, rfl⟩ | exact ⟨.inr ⟨_, _, rfl⟩, rfl⟩)) anil))))
  (bcons (sapp (dv 16) (dlam (q := qLam "law") hcl TB rfl rfl (show ∀ y ∈ (_ : List (Str × NameKind)), y.2 = NameKind.free → (defScope s_law).names.lookup y.1 = some NameKind.cell ∨ (defScope s_law).names.lookup y.1 = some NameKind.free by decide +kernel) (by first | exact ⟨.inl rfl, rfl⟩ | exact ⟨.inr ⟨_, _, rfl⟩, rfl⟩)))
  (bone (sif (tcmp (op_neD (hu64 hr)) lr_neP (dlcF (P := S.tp_law) (jr := 10) (Ng := ["_law_work"]) 17 [("_law_work", 17)] sc_law.nd (iL (dpub (dv 16))) (blkOk_by (N := ["_law_script", "_law_h", "_law_turn", "_law_drawn_here", "_law_receivers", "_law_listing_here", "_law_book_here", "_law_taken_here", "_law_missed", "_law_safe", "_law_name", "_law_minutes", "_law_due", "_law_least", "_law_size", "_law_odd", "_law_works", "_law_work", "_law_long", "_law_rules_here"]) (sc := defScope s_law) (by decide +kernel)) (show ∀ p ∈ (_ : List (Str × Nat)), (defScope s_law).names.lookup p.1 ≠ some NameKind.cell by decide +kernel) (fun _ _ _ _ _ => (gwname 17 sc_law.nd)) hcl S.F_law_refused sc_law_refused S.g_law_refused S.b_law_refused (hr.mono (by decide))
    (lams_cons (k := lam_law_0) (show lamB ["_law_script", "_law_h", "_law_turn", "_law_drawn_here", "_law_receivers", "_law_listing_here", "_law_book_here", "_law_taken_here", "_law_missed", "_law_safe", "_law_name", "_law_minutes", "_law_due", "_law_least", "_law_size", "_law_odd", "_law_works", "_law_work", "_law_long", "_law_rules_here"] (defScope s_law) _ = true by decide +kernel) (.inl ⟨rfl, fun _ _ _ _ _ _ => rfl⟩) (fun q A outer s H E f c' hr tk => (dcall (dds := []) (ok_on_disk S) (hr.mono (by decide)) S.g_on_disk S.F_on_disk.kp S.b_on_disk .nil (fun _ => .nil) tk (acons (dv 6) (acons (dv 5) (acons di (acons di (acons (dv 9) anil)))))))
    (lams_cons (k := lam_law_1) (show lamB ["_law_script", "_law_h", "_law_turn", "_law_drawn_here", "_law_receivers", "_law_listing_here", "_law_book_here", "_law_taken_here", "_law_missed", "_law_safe", "_law_name", "_law_minutes", "_law_due", "_law_least", "_law_size", "_law_odd", "_law_works", "_law_work", "_law_long", "_law_rules_here"] (defScope s_law) _ = true by decide +kernel) (.inr ⟨fun h => List.cons_ne_nil _ _ h, "_law_a", rfl, fun _ _ _ _ _ _ _ _ => ⟨_, rfl, rfl⟩⟩) (fun q A outer s H E f c' hr tk => (dcall (dds := []) (ok_on_disk S) (hr.mono (by decide)) S.g_on_disk S.F_on_disk.kp S.b_on_disk .nil (fun _ => .nil) tk (acons (dv 6) (acons (dv 5) (acons di (acons (dv 15) (acons (dv 9) anil)))))))
    (lams_cons (k := lam_law_2) (show lamB ["_law_script", "_law_h", "_law_turn", "_law_drawn_here", "_law_receivers", "_law_listing_here", "_law_book_here", "_law_taken_here", "_law_missed", "_law_safe", "_law_name", "_law_minutes", "_law_due", "_law_least", "_law_size", "_law_odd", "_law_works", "_law_work", "_law_long", "_law_rules_here"] (defScope s_law) _ = true by decide +kernel) (.inr ⟨fun h => List.cons_ne_nil _ _ h, "_law_b", rfl, fun _ _ _ _ _ _ _ _ => ⟨_, rfl, rfl⟩⟩) (fun q A outer s H E f c' hr tk => (dcall (dds := []) (ok_least_disk S) (hr.mono (by decide)) S.g_least_disk S.F_least_disk.kp S.b_least_disk .nil (fun _ => .nil) tk (acons (dv 6) (acons (dv 5) (acons di (acons (dv 9) anil))))))
    lams_nil)))
    (fun cdv A outer s H E act hr tk po hact => (bcons (stryN K sc_law_refused.nd tk (fun V pn xe tk1 po1 => (bone (sdrop (hact _ _ _ _ _ tk1))))
   (.bare (named S.g_InvalidNumber) (fun a oe cls d pn hz hf => (bone (sret db))) ClD.nil))
  (bone (sret db))))
    (by intro _ _ _ _ _; rfl) (by intro _ _ _ _ _; exact Or.inl rfl) (by intro _ _ _ _ _; rfl) (by intro _ _ _ _ _; rfl)) (dop op_rep lr_repL (dlst (acons db anil)) di) (nomark _))
   (bone (sret db)) bnil)))))))))))))
  (bcons (sset 18 sc_law.nd (dmake (dds := []) S.mk_Listing (ok_Listing_init S) (hr.mono (by decide)) S.g_Listing S.b_Listing_init .nil (fun _ => .nil) tk (acons (ddispN (.cons ds (dmake (dds := [.int 0]) S.mk_Sending (ok_Sending_init S) (hr.mono (by decide)) S.g_Sending S.b6_Sending_init S.v6_Sending_init (fun _ => (.cons (.dat (.int _)) .nil)) tk (acons ds (acons ds (acons di (acons di (acons (dop op_pow lr_pow di di) anil)))))) (.cons ds (dmake (dds := [.int 0]) S.mk_Sending (ok_Sending_init S) (hr.mono (by decide)) S.g_Sending S.b6_Sending_init S.v6_Sending_init (fun _ => (.cons (.dat (.int _)) .nil)) tk (acons ds (acons ds (acons di (acons di (acons (dop op_pow lr_pow di di) anil)))))) .nil))) anil)))
  (bcons (sset 19 sc_law.nd (dlst (acons (dmake (dds := [.tup []]) S.mk_Book (ok_Book_init S) (hr.mono (by decide)) S.g_Book S.b2_Book_init S.v2_Book_init (fun _ => (.cons (.dat (.tup (.inr ⟨rfl, ktu_sq S.kt_Book_init⟩) .nil)) .nil)) tk (acons (dtup (acons (dmake (dds := [.int 0, .int 0]) S.mk_Rule (ok_Rule_init S) (hr.mono (by decide)) S.g_Rule S.b5_Rule_init S.v5_Rule_init (fun _ => (.cons (.dat (.int _)) (.cons (.dat (.int _)) .nil))) tk (acons ds (acons di (acons di (acons di anil))))) anil)) anil)) (acons (dmake (dds := [.tup []]) S.mk_Book (ok_Book_init S) (hr.mono (by decide)) S.g_Book S.b2_Book_init S.v2_Book_init (fun _ => (.cons (.dat (.tup (.inr ⟨rfl, ktu_sq S.kt_Book_init⟩) .nil)) .nil)) tk (acons (dtup (acons (dmake (dds := [.int 0, .int 0]) S.mk_Rule (ok_Rule_init S) (hr.mono (by decide)) S.g_Rule S.b5_Rule_init S.v5_Rule_init (fun _ => (.cons (.dat (.int _)) (.cons (.dat (.int _)) .nil))) tk (acons ds (acons di (acons di (acons di anil))))) anil)) anil)) anil))))
  (bone (sret (dcall (dds := []) (ok_law_alike S 6) (hr.mono (by decide)) S.g_law_alike S.F_law_alike.kp S.b_law_alike .nil (fun _ => .nil) tk (acons (dlc [("_law_book_here", 6)] sc_law.nd (iL (dv 19)) (blkOk_by (N := ["_law_script", "_law_h", "_law_turn", "_law_drawn_here", "_law_receivers", "_law_listing_here", "_law_book_here", "_law_taken_here", "_law_missed", "_law_safe", "_law_name", "_law_minutes", "_law_due", "_law_least", "_law_size", "_law_odd", "_law_works", "_law_work", "_law_long", "_law_rules_here"]) (sc := defScope s_law) (by decide +kernel)) (fun _ _ _ _ _ => (gwname 6 sc_law.nd)) (fun _ _ _ _ _ => tsnil) (fun _ _ _ _ _ => (dcall (dds := []) (ok_least_disk S) (hr.mono (by decide)) S.g_least_disk S.F_least_disk.kp S.b_least_disk .nil (fun _ => .nil) takes0 (acons (dv 6) (acons (dv 18) (acons di (acons (dtup anil) anil))))))) (acons (dlst (acons dn (acons (dop op_pow lr_pow di di) anil))) anil))))))))))
  · (repeat (first | (obtain ⟨rfl, _⟩ := h; rfl) | (obtain ⟨_, h⟩ := h)))
  · intro cl ss st ok ex h
    obtain ⟨ns, rfl, hl, rfl, k⟩ := h
    walk_at "w"
    refine ⟨ns, 9, rfl, hl, fun p q a hpq hp hq => ?_⟩
    walk_at "w"
    refine ⟨by decide, by decide, ?_⟩
    walk_at "w"
    refine loop_fold (List.range 4) (fun i => .int (0 + (i : Int))) (fun (s : Unit) _ => s) () (fun _ Δ' st' => ∃ v2 v3 v4 v5 v6 v7 v8 v9 v10 v11 v12 v13 v14 v15 v16 v17 v18 v19 a i xs Δg σg, Δ' = [.dat (.fls (ns.map Dt.int)), .own p, v2, v3, v4, v5, v6, v7, v8, v9, v10, v11, v12, v13, v14, v15, v16, v17, v18, v19] ∧ st' = [(p, obH q a i), (q, obX xs), (S.tp_law, Ob.tbl (qLam "law") Δg σg)] ∧ xs.length ≤ 63) (by unfold rngS; simp) ⟨.un, .un, .un, .un, .un, .un, .un, .un, .un, .un, .un, .un, .un, .un, .un, .un, .un, .un, a, 0, ns, [], [], rfl, rfl, hl⟩ ?_ ?_
    · rintro pre t0 post _ Δ' st' - - ⟨v2, v3, v4, v5, v6, v7, v8, v9, v10, v11, v12, v13, v14, v15, v16, v17, v18, v19, a, i, xs, Δg, σg, rfl, rfl, hx⟩
      walk_at "w"
      rw [ctLDrawnU_eq]
      refine ⟨p, q, a, i, xs, [(S.tp_law, Ob.tbl (qLam "law") Δg σg)], 7, rfl, rfl, hpq, fun z => hp z, fun z => hq z, hx, by decide, by decide, fun b l a i xs hb _ hsr _ hll hsu hl7 hx => ?_⟩
      walk_at "w"
      refine next_at (by decide) (by decide) hx fun kk a i xs kk0 kk1 hx => ?_
      obtain ⟨j, rfl⟩ : ∃ j : Nat, kk = (j : Int) := ⟨kk.toNat, by omega⟩
      have hk1 : 1 ≤ 1 + j := by omega
      have hk2 : 1 + j ≤ 10 := by omega
      walk_at "dd"
      walk_at "w"
      rw [ctLListing_eq]
      refine ⟨l, rfl, hll, ?_⟩
      walk_at "dd"
      walk_at "zz"
      rw [ctLBook_eq]
      refine ⟨b, rfl, hb, ?_⟩
      walk_at "w"
      refine dr_at (1 + j) rfl hb hll hk2 ?_
      walk_at "w"
      refine ⟨rfl, ?_⟩
      simp only [List.set_cons_succ, List.set_cons_zero]
      walk_at "dd"
      walk_at "w"
      refine lc_state l (fun x => .str x.1) (fun c ds st' => ∃ (t : List Str) (a i : Int) (xs : List Int), ds = t.map Dt.str ∧ t.length ≤ c ∧ (∀ n ∈ t, isWord n = true) ∧ st' = [(p, obH q a i), (q, obX xs), (S.tp_law, Ob.tbl (qLam "law") Δg σg)] ∧ xs.length ≤ 63) (by unfold keysD; rw [List.map_map]; rfl) ⟨[], a, i, xs, rfl, Nat.le_refl _, (fun n h => by cases h), rfl, hx⟩ ?_ ?_
      · rintro c x D ds st' hi hD ⟨t, a, i, xs, rfl, htc, htw, rfl, hx⟩
        have hxl := List.mem_of_getElem? hi
        have hcl : c < l.length := (List.getElem?_eq_some_iff.mp hi).1
        walk_at "ss"
        refine next_at1 (by decide) (by decide) hx fun co a i xs co0 co1 hx => ?_
        walk_at "w"
        refine ⟨fun h => ?_, fun h => ?_⟩
        · walk_at "w"
          refine lcr_yes (by rw [List.length_map, sizeLine_eq]; have := hll.len; omega) ⟨t ++ [x.1], a, i, xs, by rw [List.map_append]; rfl, by rw [List.length_append, List.length_singleton]; omega, fun n hn => ?_, rfl, hx⟩
          rcases List.mem_append.mp hn with hn | hn
          · exact htw n hn
          · rw [List.mem_singleton.mp hn]
            exact (hll.ok x hxl).1
        · walk_at "w"
          exact lcr_no ⟨t, a, i, xs, rfl, by omega, htw, rfl, hx⟩
      · rintro ds st' ⟨t, a, i, xs, rfl, htc, htw, rfl, hx⟩
        simp only [List.set_cons_succ, List.set_cons_zero]
        walk_at "w"
        refine next_at (by decide) (by decide) hx fun m1 a i xs m10 m11 hx => ?_
        walk_at "w"
        refine next_at (by decide) (by decide) hx fun m2 a i xs m20 m21 hx => ?_
        walk_at "w"
        refine ⟨by show 3 ≤ sizeLine; rw [sizeLine_eq]; decide, ?_⟩
        walk_at "w"
        have hsok := sizes_ok hb hll (1 + j)
        have hst : sizesT b l (taken b l (1 + j)) = sizesOf b l (1 + j) := rowsT_sizes hll (1 + j)
        obtain ⟨sz, hsz⟩ : ∃ sz, sz = sizesOf b l (1 + j) := ⟨_, rfl⟩
        have hsm : ∀ x ∈ sz, x.2 ≤ 27 := by rw [hsz]; exact size_small hb hll hsr hsu (1 + j)
        rw [← hsz] at hsok hst
        have hdl : ∀ m, (diskOf sz t m).kept.length ≤ 10 ∧ (diskOf sz t m).del.length ≤ 10 ∧ (diskOf sz t m).ref.length ≤ 10 ∧ ∀ n ∈ (diskOf sz t m).ref, isWord n = true := fun m => by
          have inv : DkI sz sz (diskOf sz t m) := disk_pre sz t m sz
          have h1 := inv.len
          have h2 := hsok.len
          refine ⟨by omega, by omega, by omega, fun n hn => ?_⟩
          obtain ⟨y, hy, rfl⟩ := List.mem_map.mp (inv.ref n hn)
          exact hsok.word y hy
        refine loop_fold [1 + m1, 1 + m2, 1000] Dt.int (fun (s : Unit) _ => s) () (fun _ Δ' st' => ∃ v11 v12, Δ' = [.dat (.fls (ns.map Dt.int)), .own p, .dat (.int (0 + (t0 : Int))), .dat (drawnD b l), dI (1 + (j : Int)), .dat (lstD ⟨S.C_Book, S.C_Rule, S.C_Listing, S.C_Sending⟩ l), .dat (b.d ⟨S.C_Book, S.C_Rule, S.C_Listing, S.C_Sending⟩), .dat (takenD (taken b l (1 + j))), .dat (.lst ((missed b l (1 + j) (wishes b l) []).map missD)), .dat (nsD t), v10, v11, v12, v13, v14, v15, v16, v17, v18, v19] ∧ st' = [(p, obH q a i), (q, obX xs), (S.tp_law, Ob.tbl (qLam "law") Δg σg)]) rfl ⟨_, _, rfl, rfl⟩ ?_ ?_
        · rintro pre2 m post2 _ Δ' st' has - ⟨v11, v12, rfl, rfl⟩
          have hm : m ∈ [1 + m1, 1 + m2, 1000] := by rw [has]; simp
          have hmb : 1 ≤ m ∧ m ≤ 1000000 := by
            simp only [List.mem_cons, List.not_mem_nil, or_false] at hm
            omega
          walk_at "w"
          refine dr_at (taken b l (1 + j), m, t) rfl hb hll ⟨⟨1 + j, hk2, rfl⟩, htw⟩ ?_
          dsimp only
          rw [hst]
          walk_at "w"
          refine Or.inl (bl_at (1 + j, m, t) rfl hb hll ⟨⟨hk1, hk2⟩, hmb, htw⟩ ?_)
          dsimp only
          rw [← hsz]
          walk_at "w"
          obtain ⟨h1, h2, h3, _⟩ := hdl m
          refine ⟨_, rfl, .tup (n := 5) (fun d hd => ?_) (by show 3 ≤ sizeLine; rw [sizeLine_eq]; decide), ?_⟩
          · simp only [List.mem_cons, List.not_mem_nil, or_false] at hd
            rcases hd with rfl | rfl | rfl
            · exact names_pl (n := 3) _ (by rw [sizeLine_eq]; omega)
            · exact names_pl (n := 3) _ (by rw [sizeLine_eq]; omega)
            · exact names_pl (n := 3) _ (by rw [sizeLine_eq]; omega)
          walk_at "ss"
          exact ⟨_, _, rfl, rfl⟩
        · rintro Δ' st' ⟨v11, v12, rfl, rfl⟩
          walk_at "w"
          refine ⟨by decide, ?_⟩
          walk_at "w"
          obtain ⟨M, hM⟩ : ∃ M, M = (needs sz t).foldl max 1 := ⟨_, rfl⟩
          obtain ⟨hM1, hM2⟩ := need_bound hsok hsm t
          rw [← hM] at hM1 hM2
          refine lc_pure (xs := rngS 1 ((400 : Int) - 1).toNat) (List.range 399) (fun i => .int (1 + (i : Int))) (fun i => if decide (M ≤ 1 + (i : Int)) = true then some (.int (1 + (i : Int))) else none) (by unfold rngS; simp) ?_ ?_
          · intro i2 m D acc hi hD J
            have hlen : (List.range 399).length ≤ sizeLine := by rw [List.length_range, sizeLine_eq]; decide
            walk_at "ss"
            refine dr_at (taken b l (1 + j), 1 + (m : Int), t) rfl hb hll ⟨⟨1 + j, hk2, rfl⟩, htw⟩ ?_
            dsimp only
            rw [hst]
            obtain ⟨_, _, h3, h4⟩ := hdl (1 + (m : Int))
            have hr := ref_least hsok (t := t) (m := 1 + (m : Int)) (by omega)
            rw [← hM] at hr
            walk_at "w"
            refine ⟨.dat (namesD (diskOf sz t (1 + (m : Int))).ref), rfl, ?_⟩
            walk_at "w"
            refine ⟨Nat.zero_le _, ?_⟩
            walk_at "w"
            refine ⟨.list ((diskOf sz t (1 + (m : Int))).ref.map PyData.str), .list [], .lst (names_of _), .lst .nil, names_shaped _ h4, nil_shaped, ?_⟩
            rw [show PyData.eqv (.list ((diskOf sz t (1 + (m : Int))).ref.map PyData.str)) (.list []) = decide ((diskOf sz t (1 + (m : Int))).ref = []) from names_eqv _ []]
            walk_at "w"
            refine ⟨fun h => ?_, fun h => ?_⟩
            · walk_at "w"
              exact lc_yes hlen hi J (if_pos (decide_eq_true (hr.mp (of_decide_eq_true h))))
            · walk_at "w"
              exact lc_no hi J (if_neg (fun z => of_decide_eq_false h (hr.mpr (of_decide_eq_true z))))
          rw [fm_if]
          walk_at "w"
          refine Or.inl (bl_at (1 + j, t) rfl hb hll ⟨⟨hk1, hk2⟩, htw⟩ ?_)
          dsimp only
          rw [← hsz, show leastOf sz t = some M from by unfold leastOf; rw [← hM, if_pos (by omega)]]
          simp only [List.set_cons_succ, List.set_cons_zero]
          walk_at "w"
          refine ⟨.dat (.int M), atI_get (by decide) ?_, ?_⟩
          · rw [List.map_map, List.getElem?_map, show (0 : Int).toNat = 0 from rfl, first_least hM1 hM2]
            show some (Sv.dat (.int (1 + ((M - 1).toNat : Int)))) = _
            rw [show (1 + ((M - 1).toNat : Int)) = M from by omega]
          walk_at "w"
          refine ⟨.int M, rfl, .int 5 _, ?_⟩
          walk_at "ss"
          walk_at "zz"
          refine next_at (by decide) (by decide) hx fun od a i xs od0 od1 hx => ?_
          walk_at "w"
          obtain ⟨d, hd, hat⟩ := odd_m od0 od1
          refine ⟨_, hat, ?_⟩
          simp only [List.set_cons_succ, List.set_cons_zero]
          walk_at "w"
          refine ⟨⟨2, _, _, rfl⟩, ?_⟩
          walk_at "zz"
          refine ⟨⟨2, _, _, rfl⟩, ?_⟩
          walk_at "zz"
          intro r hr
          walk_at "w"
          refine ⟨⟨0, _, rfl⟩, ?_⟩
          walk_at "w"
          refine ⟨⟨3, _, _, rfl⟩, ?_⟩
          walk_at "w"
          refine ⟨0, _, rfl, by simp [sizeLine_eq], ?_⟩
          walk_at "w"
          have h2 : AllD [Sv.dat (Dt.lam cl lam_law_0), .dat (.lam cl lam_law_1), .dat (.lam cl lam_law_2)] [Dt.lam cl lam_law_0, Dt.lam cl lam_law_1, Dt.lam cl lam_law_2] := .map [Dt.lam cl lam_law_0, Dt.lam cl lam_law_1, Dt.lam cl lam_law_2]
          refine ⟨_, _, .pub (j := 0) rfl (.lst h2) hr (.cons _ (List.Sublist.refl _)), ?_⟩
          simp only [List.set_cons_succ, List.set_cons_zero]
          walk_at "w"
          refine lc_state [Dt.lam cl lam_law_0, Dt.lam cl lam_law_1, Dt.lam cl lam_law_2] id (fun c ds st' => ds = [Dt.bl true, .bl true, .bl true].take c ∧ ∃ a i xs Δg σg, st' = [(p, obH q a i), (q, obX xs), (S.tp_law, Ob.tbl (qLam "law") Δg σg)] ∧ xs.length ≤ 63) rfl ⟨rfl, a, i, xs, _, _, rfl, hx⟩ ?_ ?_
          · rintro c f D ds st' hi hD ⟨rfl, a, i, xs, Δg, σg, rfl, hx⟩
            rw [show wipeD _ _ = ([.dat (.fls (ns.map Dt.int)), .own p, .dat (.int (0 + (t0 : Int))), .dat (drawnD b l), dI (1 + (j : Int)), .dat (lstD ⟨S.C_Book, S.C_Rule, S.C_Listing, S.C_Sending⟩ l), .dat (b.d ⟨S.C_Book, S.C_Rule, S.C_Listing, S.C_Sending⟩), .dat (takenD (taken b l (1 + j))), .dat (.lst ((missed b l (1 + j) (wishes b l) []).map missD)), .dat (nsD t), v10, v11, v12, .dat (.lst (((List.range 399).filter fun i : Nat => decide (M ≤ 1 + (i : Int))).map fun i : Nat => Dt.int (1 + (i : Int)))), v14, .dat d, .own r, .un, v18, v19] : List Sv) from rfl]
            match c, hi with
              | 0, hi =>
                cases hi
                walk_at "ss"
                refine ⟨_, 3, _, _, _, rfl, (fun z => by cases z), rfl, fun σ => ?_⟩
                walk_at "w"
                refine ⟨lam_law_0, _, 0, 3, _, _, rfl, rfl, rfl, ?_⟩
                walk_at "w"
                refine Or.inr (Or.inl ⟨b, l, .int 0, _, _, rfl, ⟨trivial, by decide⟩, ?_⟩)
                walk_at "w"
                refine ⟨true, S.em_InvalidNumber_InvalidNumber, fun _ a0 d0 hd0 => ?_, fun h => absurd h (by decide)⟩
                walk_at "f"
                exact lcr_yes (by simp [sizeLine_eq]) ⟨rfl, a, i, xs, _, _, rfl, hx⟩
              | 1, hi =>
                cases hi
                walk_at "ss"
                refine ⟨_, 3, _, _, _, rfl, (fun z => by cases z), rfl, fun σ => ?_⟩
                walk_at "w"
                refine ⟨lam_law_1, _, 1, 3, _, _, rfl, rfl, rfl, ?_⟩
                walk_at "w"
                refine Or.inr (Or.inr ⟨b, l, 1, d, _, rfl, hb, hll, by decide, by decide, hd, ?_⟩)
                walk_at "w"
                refine ⟨true, S.em_InvalidNumber_InvalidNumber, fun _ a0 d0 hd0 => ?_, fun h => absurd h (by decide)⟩
                walk_at "f"
                exact lcr_yes (by simp [sizeLine_eq]) ⟨rfl, a, i, xs, _, _, rfl, hx⟩
              | 2, hi =>
                cases hi
                walk_at "ss"
                refine ⟨_, 3, _, _, _, rfl, (fun z => by cases z), rfl, fun σ => ?_⟩
                walk_at "w"
                refine ⟨lam_law_2, _, 2, 3, _, _, rfl, rfl, rfl, ?_⟩
                walk_at "w"
                refine Or.inr ⟨b, l, .int 11, _, rfl, ⟨trivial, by decide⟩, ?_⟩
                walk_at "w"
                refine ⟨true, S.em_InvalidNumber_InvalidNumber, fun _ a0 d0 hd0 => ?_, fun h => absurd h (by decide)⟩
                walk_at "f"
                exact lcr_yes (by simp [sizeLine_eq]) ⟨rfl, a, i, xs, _, _, rfl, hx⟩
              | c + 3, hi => cases hi
          · rintro ds st' ⟨rfl, a, i, xs, Δg, σg, rfl, hx⟩
            walk_at "w"
            refine ⟨by show 1 ≤ sizeLine; rw [sizeLine_eq]; decide, ?_⟩
            refine ⟨by decide, by decide, by decide, ?_⟩
            walk_at "w"
            refine ⟨.list [.bool true, .bool true, .bool true], .list [.bool true, .bool true, .bool true], .lst (.cons (.bl _) (.cons (.bl _) (.cons (.bl _) .nil))), .lst (.cons (.bl _) (.cons (.bl _) (.cons (.bl _) .nil))), bls_sh _ _ _, bls_sh _ _ _, ?_⟩
            rw [show PyData.eqv (.list [.bool true, .bool true, .bool true]) (.list [.bool true, .bool true, .bool true]) = true from by simp [PyData.eqv, PyData.eqvAll]]
            walk_at "ss"
            exact ⟨_, _, _, _, _, _, _, _, _, _, _, _, _, _, _, _, _, _, a, i, xs, Δg, σg, rfl, rfl, hx⟩
    · rintro Δ' st' ⟨v2, v3, v4, v5, v6, v7, v8, v9, v10, v11, v12, v13, v14, v15, v16, v17, v18, v19, a, i, xs, Δg, σg, rfl, rfl, hx⟩
      walk_at "w"
      intro pd hpd
      walk_at "yy"
      intro pa hpa
      refine ⟨pa, _, _, _, _, _, _, _, rfl, rfl, word_len one_word, word_len (z := "news") (by decide +kernel), trivial, trivial, trivial, trivial, fun z hz => (by have := (sok_none antS_ok).symm.trans hz; cases this), fun _ => ?_⟩
      refine ⟨rfl, _, _, _, rfl, .cons (.cons (.cons (.cons (.cons (.cons .nil))))), ?_⟩
      walk_at "yy"
      intro pb hpb
      refine ⟨pb, _, _, _, _, _, _, _, rfl, rfl, word_len one_word, word_len (z := "news") (by decide +kernel), trivial, trivial, trivial, trivial, fun z hz => (by have := (sok_none beeS_ok).symm.trans hz; cases this), fun _ => ?_⟩
      refine ⟨rfl, _, _, _, rfl, .cons (.cons (.cons (.cons (.cons (.cons .nil))))), ?_⟩
      walk_at "w"
      refine ⟨longL.map fun x => (.inr x.1, x.2.d S.C_Sending), _, rfl, by rw [show ((longL.map fun x => ((Sum.inr x.1 : Key), x.2.d S.C_Sending)).map (·.1)) = [Sum.inr ("ant" : Str), Sum.inr ("bee" : Str)] from rfl]; decide +kernel, by show 2 ≤ 15; decide, rfl, hpd, ?_⟩
      walk_at "w"
      intro pl hpl
      rw [ctListing_eq]
      refine ⟨pl, _, longL, rfl, rfl, longL_ok.len, longL_ok.nd, fun x hx => (longL_ok.ok x hx).1, ?_⟩
      refine ⟨rfl, _, _, _, rfl, .cons .nil, ?_⟩
      simp only [List.set_cons_succ, List.set_cons_zero]
      walk_at "yy"
      intro pe hpe
      refine ⟨pe, _, _, _, _, _, _, _, rfl, rfl, word_len (z := "news") (by decide +kernel), trivial, trivial, trivial, trivial, trivial, fun z hz => (by have := (rok_none rulA_ok).symm.trans hz; cases this), fun _ => ?_⟩
      refine ⟨rfl, _, _, _, rfl, .cons (.cons (.cons (.cons (.cons (.cons .nil))))), ?_⟩
      walk_at "yy"
      intro pf hpf
      rw [ctBook_eq]
      refine ⟨pf, _, [rulA], [], rfl, rfl, by decide, rfl, _, _, _, rfl, .cons (.cons .nil), ?_⟩
      walk_at "yy"
      intro pg hpg
      refine ⟨pg, _, _, _, _, _, _, _, rfl, rfl, word_len (z := "news") (by decide +kernel), trivial, trivial, trivial, trivial, trivial, fun z hz => (by have := (rok_none rulB_ok).symm.trans hz; cases this), fun _ => ?_⟩
      refine ⟨rfl, _, _, _, rfl, .cons (.cons (.cons (.cons (.cons (.cons .nil))))), ?_⟩
      walk_at "yy"
      intro ph hph
      rw [ctBook_eq]
      refine ⟨ph, _, [rulB], [], rfl, rfl, by decide, rfl, _, _, _, rfl, .cons (.cons .nil), ?_⟩
      simp only [List.set_cons_succ, List.set_cons_zero]
      walk_at "yy"
      have he : ([bkA, bkB].filterMap fun b => some (optZ (leastOf (sizesOf b longL 1) []))) = [Dt.non, .int 100000] := by rw [fm_some, List.map_cons, List.map_cons, List.map_nil, leastA, leastB]; rfl
      refine lc_pure [bkA, bkB] (fun b => b.d ⟨S.C_Book, S.C_Rule, S.C_Listing, S.C_Sending⟩) (fun b => some (optZ (leastOf (sizesOf b longL 1) []))) rfl ?_ ?_
      · intro i2 b D acc hi hD J
        have hb : BOk b := by
          have := List.mem_of_getElem? hi
          simp only [List.mem_cons, List.not_mem_nil, or_false] at this
          rcases this with rfl | rfl
          · exact bk1_ok rulA_ok
          · exact bk1_ok rulB_ok
        walk_at "yy"
        refine Or.inl (bl_at (1, []) rfl hb longL_ok ⟨⟨by decide, by decide⟩, fun n h => (by cases h)⟩ ?_)
        exact lc_yes (by show 2 ≤ sizeLine; rw [sizeLine_eq]; decide) hi J rfl
      rw [he]
      walk_at "yy"
      refine ⟨.lst (n := 5) (fun d hd => ?_) (by show 2 ≤ sizeLine; rw [sizeLine_eq]; decide), ?_⟩
      · simp only [List.mem_cons, List.not_mem_nil, or_false] at hd
        rcases hd with rfl | rfl
        · exact .non 4
        · exact .int 4 _
      exact ⟨_, [], .keep (List.nil_sublist _), k⟩
end
end K09
set_option maxHeartbeats 0
open PySem PySem.Spec PySem.W PyProof.Rows L2
def looseN_K09 : List PySem.Str := (["_wall", "__name__", "RecorderError", "InvalidSending", "InvalidListing", "UnknownName", "InvalidRule", "InvalidBook", "UnknownEpisode", "NotWished", "InvalidNumber", "GREATEST_EPISODE", "MOST_RECEIVERS", "is_word", "is_number", "is_receivers", "check_receivers", "check_number", "episode_of", "rule_for", "wished_names", "wishes", "sendings_of", "window", "wished_windows", "windows_overlap", "ascending", "on_receiver", "least_free", "taken_up", "own_plan", "begin_then_name", "MOST_MINUTES", "MOST_NEEDED", "recorded_minutes", "minutes_of", "among", "on_disk", "least_disk", "MOST_RULES", "GREATEST_PRIORITY", "MOST_PADDING", "wrong_part", "wrong_part_books", "Rule", "Book", "MOST_SENDINGS", "LATEST_BEGIN", "LATEST_END", "MOST_LATE", "wrong_part_listings", "Sending", "Listing", "_law_mix", "_law_next", "_law_alike", "_law_sendings", "_law_rules", "_law_drawn", "_law_listing", "_law_book", "_law_rule", "_law_groups", "_law_window", "_law_cross", "_law_taken", "_law_refused", "_law_stored"] : List String).map PySem.Str.ofString
local macro_rules | `(tactic| o_head (kmHook $k $a $e $t)) => `(tactic| (refine HeadRun.head_any (r := (PySem.W.OpenLaw.row PySem.Challenge.rw_fewtuners_k09_whole_small_disks)) (q := view (PySem.W.OpenLaw.row PySem.Challenge.rw_fewtuners_k09_whole_small_disks).prog [77]) (H := kmHook $k $a $e $t) (ob := (fun s => (List.map (HeadRun.getT s) $a, List.map (HeadRun.getT s) $t))) (M := 40000) (loose := looseN_K09) (d := HeadRun.topDef (PySem.W.OpenLaw.row PySem.Challenge.rw_fewtuners_k09_whole_small_disks).prog 77) (kwd := []) (fun s => Prod.ext (List.map_congr_left fun a _ => HeadRun.getT_eq s a) (List.map_congr_left fun a _ => HeadRun.getT_eq s a)) (by kernel_rfl) (fun s => by kernel_rfl) (fun w => by intro os; kernel_rfl) (by kernel_rfl) (by kernel_rfl) (by kernel_rfl) (by rfl) (by first | assumption | decide +kernel) (by decide +kernel) ⟨rfl, rfl, rfl, rfl, rfl, by decide +kernel⟩ ?hw ?hc))
theorem K09_en {KK : PySem.W.Frag} {mg : Str → Option Value} {f : Addr} {P : Program} {w : World} (S : K09.En KK mg) (e : mg "law" = some (.ref f)) : ∃ fd : FuncData, (∀ (s : Shared) (u : Value), BindsTo s fd ⟨[u], []⟩ [("_law_script", u)]) ∧ ∀ base : Heap, KK.In base → base.Ns mainGlobals mg → LamX.TabB base mg S.tc_law S.tp_law → FnOk P w KK mg base (L2.CX P w) 13 f fd ["_law_script"] (DD.lowF KK (DD.ctLawT S.tp_law)) := by
  have z : S.f_law = f := by
    have q := S.g_law.symm.trans e
    cases q
    rfl
  subst z
  refine ⟨S.d_law, ?_, fun base _ _ T => K09.ok_law S T⟩
  intro s u
  obtain ⟨⟨oc, od, kV, doc, pm, an, cdv, ct, osl, e, l, c⟩, k⟩ := S.F_law
  rw [e]
  exact .of_eq (by rfl)
theorem DD.tab_K {K : PySem.W.Frag} {ts : List Addr} {h : Heap} (E : PySem.W.Frag → Type) (tc : ∀ {K}, E K → Addr) (T : ∀ p ∈ ts, h.get? p = some (PySem.W.tabObj #[])) (X : K.In h) (S : E K) (e : List.elem (He.tabOf K (tc S)) ts = true) : ∃ S : E K, h.get? (He.tabOf K (tc S)) = some (PySem.W.tabObj #[]) := ⟨S, T _ (List.elem_iff.mp e)⟩
theorem PySem.Challenge.cw_fewtuners_k09_whole_small_disks_holds : PySem.Challenge.rw_fewtuners_k09_whole_small_disks.Holds := by
  w_on; o_law; k_head
  case hw => w_witness2
  case hc =>
    k_fill
    refine LamX.walk_ofTs (l := PySem.Challenge.rw_fewtuners_k09_whole_small_disks) (n := 63) (k := 13) (x := "_law_script") (CX := fun w => L2.CX PySem.Challenge.rw_fewtuners_k09_whole_small_disks.prog w) rfl (by decide) rfl ⟨rfl, by decide, by decide⟩ (fun w h Y => PySem.W.km_in_of Y) ?F (fun _ _ _ _ _ z => DD.cx_none z)
    case F =>
      intro w mg fa h Y KX G hmg
      have T := PySem.W.km_tabs_of Y
      obtain ⟨S, hT⟩ := DD.tab_K (fun KK => K09.En KK mg) (fun S => S.tc_law) T KX {
        n_len := PySem.W.mg_none_of KX G (by k_is)
        n_int := PySem.W.mg_none_of KX G (by k_is)
        n_bool := PySem.W.mg_none_of KX G (by k_is)
        n_str := PySem.W.mg_none_of KX G (by k_is)
        n_list := PySem.W.mg_none_of KX G (by k_is)
        n_tuple := PySem.W.mg_none_of KX G (by k_is)
        n_dict := PySem.W.mg_none_of KX G (by k_is)
        n_range := PySem.W.mg_none_of KX G (by k_is)
        n_isinstance := PySem.W.mg_none_of KX G (by k_is)
        n_max := PySem.W.mg_none_of KX G (by k_is)
        n_min := PySem.W.mg_none_of KX G (by k_is)
        n_all := PySem.W.mg_none_of KX G (by k_is)
        n_sorted := PySem.W.mg_none_of KX G (by k_is)
        n_sum := PySem.W.mg_none_of KX G (by k_is)
        n_enumerate := PySem.W.mg_none_of KX G (by k_is)
        u_GREATEST_EPISODE := _
        c_GREATEST_EPISODE := PySem.W.mg_of KX G (by k_is)
        r_GREATEST_EPISODE := ⟨_, rfl⟩
        u_MOST_RECEIVERS := _
        c_MOST_RECEIVERS := PySem.W.mg_of KX G (by k_is)
        r_MOST_RECEIVERS := ⟨_, rfl⟩
        u_MOST_MINUTES := _
        c_MOST_MINUTES := PySem.W.mg_of KX G (by k_is)
        r_MOST_MINUTES := ⟨_, rfl⟩
        u_MOST_NEEDED := _
        c_MOST_NEEDED := PySem.W.mg_of KX G (by k_is)
        r_MOST_NEEDED := ⟨_, rfl⟩
        u_MOST_RULES := _
        c_MOST_RULES := PySem.W.mg_of KX G (by k_is)
        r_MOST_RULES := ⟨_, rfl⟩
        u_GREATEST_PRIORITY := _
        c_GREATEST_PRIORITY := PySem.W.mg_of KX G (by k_is)
        r_GREATEST_PRIORITY := ⟨_, rfl⟩
        u_MOST_PADDING := _
        c_MOST_PADDING := PySem.W.mg_of KX G (by k_is)
        r_MOST_PADDING := ⟨_, rfl⟩
        u_MOST_SENDINGS := _
        c_MOST_SENDINGS := PySem.W.mg_of KX G (by k_is)
        r_MOST_SENDINGS := ⟨_, rfl⟩
        u_LATEST_BEGIN := _
        c_LATEST_BEGIN := PySem.W.mg_of KX G (by k_is)
        r_LATEST_BEGIN := ⟨_, rfl⟩
        u_LATEST_END := _
        c_LATEST_END := PySem.W.mg_of KX G (by k_is)
        r_LATEST_END := ⟨_, rfl⟩
        u_MOST_LATE := _
        c_MOST_LATE := PySem.W.mg_of KX G (by k_is)
        r_MOST_LATE := ⟨_, rfl⟩
        f_is_word := _
        g_is_word := PySem.W.mg_of KX G (by k_is)
        d_is_word := _
        F_is_word := fun_mk (by k_is) (by k_is) (by k_is)
        f_is_number := _
        g_is_number := PySem.W.mg_of KX G (by k_is)
        d_is_number := _
        F_is_number := fun_mk (by k_is) (by k_is) (by k_is)
        f_is_receivers := _
        g_is_receivers := PySem.W.mg_of KX G (by k_is)
        d_is_receivers := _
        F_is_receivers := fun_mk (by k_is) (by k_is) (by k_is)
        f_check_receivers := _
        g_check_receivers := PySem.W.mg_of KX G (by k_is)
        d_check_receivers := _
        F_check_receivers := fun_mk (by k_is) (by k_is) (by k_is)
        f_check_number := _
        g_check_number := PySem.W.mg_of KX G (by k_is)
        d_check_number := _
        F_check_number := fun_mk (by k_is) (by k_is) (by k_is)
        f_episode_of := _
        g_episode_of := PySem.W.mg_of KX G (by k_is)
        d_episode_of := _
        F_episode_of := fun_mk (by k_is) (by k_is) (by k_is)
        f_rule_for := _
        g_rule_for := PySem.W.mg_of KX G (by k_is)
        d_rule_for := _
        F_rule_for := fun_mk (by k_is) (by k_is) (by k_is)
        f_wished_names := _
        g_wished_names := PySem.W.mg_of KX G (by k_is)
        d_wished_names := _
        F_wished_names := fun_mk (by k_is) (by k_is) (by k_is)
        f_wishes := _
        g_wishes := PySem.W.mg_of KX G (by k_is)
        d_wishes := _
        F_wishes := fun_mk (by k_is) (by k_is) (by k_is)
        f_sendings_of := _
        g_sendings_of := PySem.W.mg_of KX G (by k_is)
        d_sendings_of := _
        F_sendings_of := fun_mk (by k_is) (by k_is) (by k_is)
        f_window := _
        g_window := PySem.W.mg_of KX G (by k_is)
        d_window := _
        F_window := fun_mk (by k_is) (by k_is) (by k_is)
        f_wished_windows := _
        g_wished_windows := PySem.W.mg_of KX G (by k_is)
        d_wished_windows := _
        F_wished_windows := fun_mk (by k_is) (by k_is) (by k_is)
        f_windows_overlap := _
        g_windows_overlap := PySem.W.mg_of KX G (by k_is)
        d_windows_overlap := _
        F_windows_overlap := fun_mk (by k_is) (by k_is) (by k_is)
        f_ascending := _
        g_ascending := PySem.W.mg_of KX G (by k_is)
        d_ascending := _
        F_ascending := fun_mk (by k_is) (by k_is) (by k_is)
        f_on_receiver := _
        g_on_receiver := PySem.W.mg_of KX G (by k_is)
        d_on_receiver := _
        F_on_receiver := fun_mk (by k_is) (by k_is) (by k_is)
        f_least_free := _
        g_least_free := PySem.W.mg_of KX G (by k_is)
        d_least_free := _
        F_least_free := fun_mk (by k_is) (by k_is) (by k_is)
        f_taken_up := _
        g_taken_up := PySem.W.mg_of KX G (by k_is)
        d_taken_up := _
        F_taken_up := fun_mk (by k_is) (by k_is) (by k_is)
        f_own_plan := _
        g_own_plan := PySem.W.mg_of KX G (by k_is)
        d_own_plan := _
        F_own_plan := fun_mk (by k_is) (by k_is) (by k_is)
        f_begin_then_name := _
        g_begin_then_name := PySem.W.mg_of KX G (by k_is)
        d_begin_then_name := _
        F_begin_then_name := fun_mk (by k_is) (by k_is) (by k_is)
        f_recorded_minutes := _
        g_recorded_minutes := PySem.W.mg_of KX G (by k_is)
        d_recorded_minutes := _
        F_recorded_minutes := fun_mk (by k_is) (by k_is) (by k_is)
        f_minutes_of := _
        g_minutes_of := PySem.W.mg_of KX G (by k_is)
        d_minutes_of := _
        F_minutes_of := fun_mk (by k_is) (by k_is) (by k_is)
        f_among := _
        g_among := PySem.W.mg_of KX G (by k_is)
        d_among := _
        F_among := fun_mk (by k_is) (by k_is) (by k_is)
        f_on_disk := _
        g_on_disk := PySem.W.mg_of KX G (by k_is)
        d_on_disk := _
        F_on_disk := fun_mk (by k_is) (by k_is) (by k_is)
        f_least_disk := _
        g_least_disk := PySem.W.mg_of KX G (by k_is)
        d_least_disk := _
        F_least_disk := fun_mk (by k_is) (by k_is) (by k_is)
        f_wrong_part_books := _
        g_wrong_part_books := PySem.W.mg_of KX G (by k_is)
        d_wrong_part_books := _
        F_wrong_part_books := fun_mk (by k_is) (by k_is) (by k_is)
        f_wrong_part_listings := _
        g_wrong_part_listings := PySem.W.mg_of KX G (by k_is)
        d_wrong_part_listings := _
        F_wrong_part_listings := fun_mk (by k_is) (by k_is) (by k_is)
        f_law_mix := _
        g_law_mix := PySem.W.mg_of KX G (by k_is)
        d_law_mix := _
        F_law_mix := fun_mk (by k_is) (by k_is) (by k_is)
        f_law_next := _
        g_law_next := PySem.W.mg_of KX G (by k_is)
        d_law_next := _
        F_law_next := fun_mk (by k_is) (by k_is) (by k_is)
        f_law_alike := _
        g_law_alike := PySem.W.mg_of KX G (by k_is)
        d_law_alike := _
        F_law_alike := fun_mk (by k_is) (by k_is) (by k_is)
        f_law_sendings := _
        g_law_sendings := PySem.W.mg_of KX G (by k_is)
        d_law_sendings := _
        F_law_sendings := fun_mk (by k_is) (by k_is) (by k_is)
        f_law_rules := _
        g_law_rules := PySem.W.mg_of KX G (by k_is)
        d_law_rules := _
        F_law_rules := fun_mk (by k_is) (by k_is) (by k_is)
        f_law_drawn := _
        g_law_drawn := PySem.W.mg_of KX G (by k_is)
        d_law_drawn := _
        F_law_drawn := fun_mk (by k_is) (by k_is) (by k_is)
        f_law_listing := _
        g_law_listing := PySem.W.mg_of KX G (by k_is)
        d_law_listing := _
        F_law_listing := fun_mk (by k_is) (by k_is) (by k_is)
        f_law_book := _
        g_law_book := PySem.W.mg_of KX G (by k_is)
        d_law_book := _
        F_law_book := fun_mk (by k_is) (by k_is) (by k_is)
        f_law_rule := _
        g_law_rule := PySem.W.mg_of KX G (by k_is)
        d_law_rule := _
        F_law_rule := fun_mk (by k_is) (by k_is) (by k_is)
        f_law_groups := _
        g_law_groups := PySem.W.mg_of KX G (by k_is)
        d_law_groups := _
        F_law_groups := fun_mk (by k_is) (by k_is) (by k_is)
        f_law_window := _
        g_law_window := PySem.W.mg_of KX G (by k_is)
        d_law_window := _
        F_law_window := fun_mk (by k_is) (by k_is) (by k_is)
        f_law_cross := _
        g_law_cross := PySem.W.mg_of KX G (by k_is)
        d_law_cross := _
        F_law_cross := fun_mk (by k_is) (by k_is) (by k_is)
        f_law_taken := _
        g_law_taken := PySem.W.mg_of KX G (by k_is)
        d_law_taken := _
        F_law_taken := fun_mk (by k_is) (by k_is) (by k_is)
        f_law_refused := _
        g_law_refused := PySem.W.mg_of KX G (by k_is)
        d_law_refused := _
        F_law_refused := fun_mk (by k_is) (by k_is) (by k_is)
        f_law_stored := _
        g_law_stored := PySem.W.mg_of KX G (by k_is)
        d_law_stored := _
        F_law_stored := fun_mk (by k_is) (by k_is) (by k_is)
        f_law := _
        g_law := PySem.W.mg_of KX G (by k_is)
        d_law := _
        F_law := fun_mk (by k_is) (by k_is) (by k_is)
        C_Rule := _
        g_Rule := PySem.W.mg_of KX G (by k_is)
        cl_Rule := ⟨by k_is, by k_is, by k_is, by k_is⟩
        in_Rule := ⟨⟨by k_is, by k_is, by k_is, by k_is⟩, by k_is, by k_is, by k_is, by k_is⟩
        f_Rule_init := _
        mk_Rule := ⟨by k_is, by k_is, by k_is, by k_is⟩
        d_Rule_init := _
        F_Rule_init := DD.fund_mk (its := [_, _]) (by k_is) (by k_is) (by k_is) (by k_is) (by decide) (.cons ⟨_, rfl⟩ (.cons ⟨_, rfl⟩ (.nil)))
        f_Rule_show := _
        q_Rule_show := _
        p_Rule_show := ⟨by k_is, by k_is, by k_is, _, by k_is⟩
        d_Rule_show := _
        F_Rule_show := fun_mk (by k_is) (by k_is) (by k_is)
        f_Rule_first := _
        q_Rule_first := _
        p_Rule_first := ⟨by k_is, by k_is, by k_is, _, by k_is⟩
        d_Rule_first := _
        F_Rule_first := fun_mk (by k_is) (by k_is) (by k_is)
        f_Rule_last := _
        q_Rule_last := _
        p_Rule_last := ⟨by k_is, by k_is, by k_is, _, by k_is⟩
        d_Rule_last := _
        F_Rule_last := fun_mk (by k_is) (by k_is) (by k_is)
        f_Rule_priority := _
        q_Rule_priority := _
        p_Rule_priority := ⟨by k_is, by k_is, by k_is, _, by k_is⟩
        d_Rule_priority := _
        F_Rule_priority := fun_mk (by k_is) (by k_is) (by k_is)
        f_Rule_before := _
        q_Rule_before := _
        p_Rule_before := ⟨by k_is, by k_is, by k_is, _, by k_is⟩
        d_Rule_before := _
        F_Rule_before := fun_mk (by k_is) (by k_is) (by k_is)
        f_Rule_after := _
        q_Rule_after := _
        p_Rule_after := ⟨by k_is, by k_is, by k_is, _, by k_is⟩
        d_Rule_after := _
        F_Rule_after := fun_mk (by k_is) (by k_is) (by k_is)
        f_Rule_eq := _
        e_Rule_eq := by k_is
        fn_Rule_eq := by k_is
        ne_Rule := DD.nec_of (by k_is) (by kernel_rfl) (by k_is) (by k_is) (by k_is) rfl
        d_Rule_eq := _
        F_Rule_eq := fun_mk (by k_is) (by k_is) (by k_is)
        na_Rule_show := DD.na_of (by k_is)
        na_Rule_first := DD.na_of (by k_is)
        na_Rule_last := DD.na_of (by k_is)
        na_Rule_priority := DD.na_of (by k_is)
        na_Rule_before := DD.na_of (by k_is)
        na_Rule_after := DD.na_of (by k_is)
        C_Book := _
        g_Book := PySem.W.mg_of KX G (by k_is)
        cl_Book := ⟨by k_is, by k_is, by k_is, by k_is⟩
        in_Book := ⟨⟨by k_is, by k_is, by k_is, by k_is⟩, by k_is, by k_is, by k_is, by k_is⟩
        f_Book_init := _
        mk_Book := ⟨by k_is, by k_is, by k_is, by k_is⟩
        d_Book_init := _
        a_Book_init := _
        F_Book_init := DD.fund_mk (its := [_]) (by k_is) (by k_is) (by k_is) (by k_is) (by decide) (.cons rfl (.nil))
        kt_Book_init := ⟨_, _, by k_is, rfl, rfl⟩
        f_Book_rules := _
        q_Book_rules := _
        p_Book_rules := ⟨by k_is, by k_is, by k_is, _, by k_is⟩
        d_Book_rules := _
        F_Book_rules := fun_mk (by k_is) (by k_is) (by k_is)
        f_Book_seen := _
        q_Book_seen := _
        p_Book_seen := ⟨by k_is, by k_is, by k_is, _, by k_is⟩
        d_Book_seen := _
        F_Book_seen := fun_mk (by k_is) (by k_is) (by k_is)
        f_Book_rule_of := _
        m_Book_rule_of := ⟨by k_is, by k_is, by k_is⟩
        d_Book_rule_of := _
        F_Book_rule_of := fun_mk (by k_is) (by k_is) (by k_is)
        f_Book_eq := _
        e_Book_eq := by k_is
        fn_Book_eq := by k_is
        ne_Book := DD.nec_of (by k_is) (by kernel_rfl) (by k_is) (by k_is) (by k_is) rfl
        d_Book_eq := _
        F_Book_eq := fun_mk (by k_is) (by k_is) (by k_is)
        na_Book_rules := DD.na_of (by k_is)
        na_Book_seen := DD.na_of (by k_is)
        C_Sending := _
        g_Sending := PySem.W.mg_of KX G (by k_is)
        cl_Sending := ⟨by k_is, by k_is, by k_is, by k_is⟩
        in_Sending := ⟨⟨by k_is, by k_is, by k_is, by k_is⟩, by k_is, by k_is, by k_is, by k_is⟩
        f_Sending_init := _
        mk_Sending := ⟨by k_is, by k_is, by k_is, by k_is⟩
        d_Sending_init := _
        F_Sending_init := DD.fund_mk (its := [_]) (by k_is) (by k_is) (by k_is) (by k_is) (by decide) (.cons ⟨_, rfl⟩ (.nil))
        f_Sending_channel := _
        q_Sending_channel := _
        p_Sending_channel := ⟨by k_is, by k_is, by k_is, _, by k_is⟩
        d_Sending_channel := _
        F_Sending_channel := fun_mk (by k_is) (by k_is) (by k_is)
        f_Sending_show := _
        q_Sending_show := _
        p_Sending_show := ⟨by k_is, by k_is, by k_is, _, by k_is⟩
        d_Sending_show := _
        F_Sending_show := fun_mk (by k_is) (by k_is) (by k_is)
        f_Sending_episode := _
        q_Sending_episode := _
        p_Sending_episode := ⟨by k_is, by k_is, by k_is, _, by k_is⟩
        d_Sending_episode := _
        F_Sending_episode := fun_mk (by k_is) (by k_is) (by k_is)
        f_Sending_begin := _
        q_Sending_begin := _
        p_Sending_begin := ⟨by k_is, by k_is, by k_is, _, by k_is⟩
        d_Sending_begin := _
        F_Sending_begin := fun_mk (by k_is) (by k_is) (by k_is)
        f_Sending_end := _
        q_Sending_end := _
        p_Sending_end := ⟨by k_is, by k_is, by k_is, _, by k_is⟩
        d_Sending_end := _
        F_Sending_end := fun_mk (by k_is) (by k_is) (by k_is)
        f_Sending_late := _
        q_Sending_late := _
        p_Sending_late := ⟨by k_is, by k_is, by k_is, _, by k_is⟩
        d_Sending_late := _
        F_Sending_late := fun_mk (by k_is) (by k_is) (by k_is)
        f_Sending_eq := _
        e_Sending_eq := by k_is
        fn_Sending_eq := by k_is
        ne_Sending := DD.nec_of (by k_is) (by kernel_rfl) (by k_is) (by k_is) (by k_is) rfl
        d_Sending_eq := _
        F_Sending_eq := fun_mk (by k_is) (by k_is) (by k_is)
        na_Sending_channel := DD.na_of (by k_is)
        na_Sending_show := DD.na_of (by k_is)
        na_Sending_episode := DD.na_of (by k_is)
        na_Sending_begin := DD.na_of (by k_is)
        na_Sending_end := DD.na_of (by k_is)
        na_Sending_late := DD.na_of (by k_is)
        C_Listing := _
        g_Listing := PySem.W.mg_of KX G (by k_is)
        cl_Listing := ⟨by k_is, by k_is, by k_is, by k_is⟩
        in_Listing := ⟨⟨by k_is, by k_is, by k_is, by k_is⟩, by k_is, by k_is, by k_is, by k_is⟩
        f_Listing_init := _
        mk_Listing := ⟨by k_is, by k_is, by k_is, by k_is⟩
        d_Listing_init := _
        F_Listing_init := fun_mk (by k_is) (by k_is) (by k_is)
        f_Listing_names := _
        q_Listing_names := _
        p_Listing_names := ⟨by k_is, by k_is, by k_is, _, by k_is⟩
        d_Listing_names := _
        F_Listing_names := fun_mk (by k_is) (by k_is) (by k_is)
        f_Listing_sendings := _
        q_Listing_sendings := _
        p_Listing_sendings := ⟨by k_is, by k_is, by k_is, _, by k_is⟩
        d_Listing_sendings := _
        F_Listing_sendings := fun_mk (by k_is) (by k_is) (by k_is)
        f_Listing_getitem := _
        sg_Listing_getitem := by k_is
        fi_Listing_getitem := by k_is
        fn_Listing_getitem := by k_is
        d_Listing_getitem := _
        F_Listing_getitem := fun_mk (by k_is) (by k_is) (by k_is)
        f_Listing_contains := _
        sg_Listing_contains := by k_is
        fi_Listing_contains := by k_is
        fn_Listing_contains := by k_is
        d_Listing_contains := _
        F_Listing_contains := fun_mk (by k_is) (by k_is) (by k_is)
        f_Listing_len := _
        sg_Listing_len := by k_is
        fi_Listing_len := by k_is
        fn_Listing_len := by k_is
        d_Listing_len := _
        F_Listing_len := fun_mk (by k_is) (by k_is) (by k_is)
        f_Listing_eq := _
        e_Listing_eq := by k_is
        fn_Listing_eq := by k_is
        ne_Listing := DD.nec_of (by k_is) (by kernel_rfl) (by k_is) (by k_is) (by k_is) rfl
        d_Listing_eq := _
        F_Listing_eq := fun_mk (by k_is) (by k_is) (by k_is)
        na_Listing_sendings := DD.na_of (by k_is)
        tc_law := _
        dc_law := rfl
        h_law := by kernel_rfl
        n_tp := by kernel_rfl
        ki_Rule_Rule := DD.kit_same
        ki_Book_Rule := DD.kit_cr (by decide) (by k_is) (by k_is) (by k_is)
        ki_Sending_Rule := DD.kit_cr (by decide) (by k_is) (by k_is) (by k_is)
        ki_Listing_Rule := DD.kit_cr (by decide) (by k_is) (by k_is) (by k_is)
        kb_NoneType_Rule := DD.kit_cr (by rfl) (by k_is) (by k_is) (by k_is)
        kb_bool_Rule := DD.kit_cr (by rfl) (by k_is) (by k_is) (by k_is)
        kb_int_Rule := DD.kit_cr (by rfl) (by k_is) (by k_is) (by k_is)
        kb_str_Rule := DD.kit_cr (by rfl) (by k_is) (by k_is) (by k_is)
        kb_list_Rule := DD.kit_cr (by rfl) (by k_is) (by k_is) (by k_is)
        kb_tuple_Rule := DD.kit_cr (by rfl) (by k_is) (by k_is) (by k_is)
        kb_dict_Rule := DD.kit_cr (by rfl) (by k_is) (by k_is) (by k_is)
        ko_Rule_bool := DD.kit_ct (by kernel_rfl) (by k_is)
        ko_Rule_int := DD.kit_ct (by kernel_rfl) (by k_is)
        ko_Rule_str := DD.kit_ct (by kernel_rfl) (by k_is)
        ko_Rule_list := DD.kit_ct (by kernel_rfl) (by k_is)
        ko_Rule_tuple := DD.kit_ct (by kernel_rfl) (by k_is)
        ko_Rule_dict := DD.kit_ct (by kernel_rfl) (by k_is)
        ki_Rule_Book := DD.kit_cr (by decide) (by k_is) (by k_is) (by k_is)
        ki_Book_Book := DD.kit_same
        ki_Sending_Book := DD.kit_cr (by decide) (by k_is) (by k_is) (by k_is)
        ki_Listing_Book := DD.kit_cr (by decide) (by k_is) (by k_is) (by k_is)
        kb_NoneType_Book := DD.kit_cr (by rfl) (by k_is) (by k_is) (by k_is)
        kb_bool_Book := DD.kit_cr (by rfl) (by k_is) (by k_is) (by k_is)
        kb_int_Book := DD.kit_cr (by rfl) (by k_is) (by k_is) (by k_is)
        kb_str_Book := DD.kit_cr (by rfl) (by k_is) (by k_is) (by k_is)
        kb_list_Book := DD.kit_cr (by rfl) (by k_is) (by k_is) (by k_is)
        kb_tuple_Book := DD.kit_cr (by rfl) (by k_is) (by k_is) (by k_is)
        kb_dict_Book := DD.kit_cr (by rfl) (by k_is) (by k_is) (by k_is)
        ko_Book_bool := DD.kit_ct (by kernel_rfl) (by k_is)
        ko_Book_int := DD.kit_ct (by kernel_rfl) (by k_is)
        ko_Book_str := DD.kit_ct (by kernel_rfl) (by k_is)
        ko_Book_list := DD.kit_ct (by kernel_rfl) (by k_is)
        ko_Book_tuple := DD.kit_ct (by kernel_rfl) (by k_is)
        ko_Book_dict := DD.kit_ct (by kernel_rfl) (by k_is)
        ki_Rule_Sending := DD.kit_cr (by decide) (by k_is) (by k_is) (by k_is)
        ki_Book_Sending := DD.kit_cr (by decide) (by k_is) (by k_is) (by k_is)
        ki_Sending_Sending := DD.kit_same
        ki_Listing_Sending := DD.kit_cr (by decide) (by k_is) (by k_is) (by k_is)
        kb_NoneType_Sending := DD.kit_cr (by rfl) (by k_is) (by k_is) (by k_is)
        kb_bool_Sending := DD.kit_cr (by rfl) (by k_is) (by k_is) (by k_is)
        kb_int_Sending := DD.kit_cr (by rfl) (by k_is) (by k_is) (by k_is)
        kb_str_Sending := DD.kit_cr (by rfl) (by k_is) (by k_is) (by k_is)
        kb_list_Sending := DD.kit_cr (by rfl) (by k_is) (by k_is) (by k_is)
        kb_tuple_Sending := DD.kit_cr (by rfl) (by k_is) (by k_is) (by k_is)
        kb_dict_Sending := DD.kit_cr (by rfl) (by k_is) (by k_is) (by k_is)
        ko_Sending_bool := DD.kit_ct (by kernel_rfl) (by k_is)
        ko_Sending_int := DD.kit_ct (by kernel_rfl) (by k_is)
        ko_Sending_str := DD.kit_ct (by kernel_rfl) (by k_is)
        ko_Sending_list := DD.kit_ct (by kernel_rfl) (by k_is)
        ko_Sending_tuple := DD.kit_ct (by kernel_rfl) (by k_is)
        ko_Sending_dict := DD.kit_ct (by kernel_rfl) (by k_is)
        ki_Rule_Listing := DD.kit_cr (by decide) (by k_is) (by k_is) (by k_is)
        ki_Book_Listing := DD.kit_cr (by decide) (by k_is) (by k_is) (by k_is)
        ki_Sending_Listing := DD.kit_cr (by decide) (by k_is) (by k_is) (by k_is)
        ki_Listing_Listing := DD.kit_same
        kb_NoneType_Listing := DD.kit_cr (by rfl) (by k_is) (by k_is) (by k_is)
        kb_bool_Listing := DD.kit_cr (by rfl) (by k_is) (by k_is) (by k_is)
        kb_int_Listing := DD.kit_cr (by rfl) (by k_is) (by k_is) (by k_is)
        kb_str_Listing := DD.kit_cr (by rfl) (by k_is) (by k_is) (by k_is)
        kb_list_Listing := DD.kit_cr (by rfl) (by k_is) (by k_is) (by k_is)
        kb_tuple_Listing := DD.kit_cr (by rfl) (by k_is) (by k_is) (by k_is)
        kb_dict_Listing := DD.kit_cr (by rfl) (by k_is) (by k_is) (by k_is)
        ko_Listing_bool := DD.kit_ct (by kernel_rfl) (by k_is)
        ko_Listing_int := DD.kit_ct (by kernel_rfl) (by k_is)
        ko_Listing_str := DD.kit_ct (by kernel_rfl) (by k_is)
        ko_Listing_list := DD.kit_ct (by kernel_rfl) (by k_is)
        ko_Listing_tuple := DD.kit_ct (by kernel_rfl) (by k_is)
        ko_Listing_dict := DD.kit_ct (by kernel_rfl) (by k_is)
        C_RecorderError := _
        g_RecorderError := PySem.W.mg_of KX G (by k_is)
        kc_RecorderError := by k_is
        r_RecorderError := by k_is
        ty_RecorderError := by k_is
        C_InvalidSending := _
        g_InvalidSending := PySem.W.mg_of KX G (by k_is)
        kc_InvalidSending := by k_is
        r_InvalidSending := by k_is
        ty_InvalidSending := by k_is
        f_InvalidSending_init := _
        T_InvalidSending := DD.oex_of (by k_is) (by kernel_rfl) (by k_is) (by k_is) (by k_is) (by k_is)
        i_InvalidSending := by k_is
        t_InvalidSending := by k_is
        X_InvalidSending := ⟨by k_is, by k_is, by k_is, by k_is⟩
        nf_InvalidSending := by k_is
        d_InvalidSending_init := _
        F_InvalidSending_init := fun_mk (by k_is) (by k_is) (by k_is)
        C_InvalidListing := _
        g_InvalidListing := PySem.W.mg_of KX G (by k_is)
        kc_InvalidListing := by k_is
        r_InvalidListing := by k_is
        ty_InvalidListing := by k_is
        f_InvalidListing_init := _
        T_InvalidListing := DD.oex_of (by k_is) (by kernel_rfl) (by k_is) (by k_is) (by k_is) (by k_is)
        i_InvalidListing := by k_is
        t_InvalidListing := by k_is
        X_InvalidListing := ⟨by k_is, by k_is, by k_is, by k_is⟩
        nf_InvalidListing := by k_is
        d_InvalidListing_init := _
        F_InvalidListing_init := fun_mk (by k_is) (by k_is) (by k_is)
        C_UnknownName := _
        g_UnknownName := PySem.W.mg_of KX G (by k_is)
        kc_UnknownName := by k_is
        r_UnknownName := by k_is
        ty_UnknownName := by k_is
        x_UnknownName := by kernel_rfl
        C_InvalidRule := _
        g_InvalidRule := PySem.W.mg_of KX G (by k_is)
        kc_InvalidRule := by k_is
        r_InvalidRule := by k_is
        ty_InvalidRule := by k_is
        f_InvalidRule_init := _
        T_InvalidRule := DD.oex_of (by k_is) (by kernel_rfl) (by k_is) (by k_is) (by k_is) (by k_is)
        i_InvalidRule := by k_is
        t_InvalidRule := by k_is
        X_InvalidRule := ⟨by k_is, by k_is, by k_is, by k_is⟩
        nf_InvalidRule := by k_is
        d_InvalidRule_init := _
        F_InvalidRule_init := fun_mk (by k_is) (by k_is) (by k_is)
        C_InvalidBook := _
        g_InvalidBook := PySem.W.mg_of KX G (by k_is)
        kc_InvalidBook := by k_is
        r_InvalidBook := by k_is
        ty_InvalidBook := by k_is
        x_InvalidBook := by kernel_rfl
        C_UnknownEpisode := _
        g_UnknownEpisode := PySem.W.mg_of KX G (by k_is)
        kc_UnknownEpisode := by k_is
        r_UnknownEpisode := by k_is
        ty_UnknownEpisode := by k_is
        x_UnknownEpisode := by kernel_rfl
        C_NotWished := _
        g_NotWished := PySem.W.mg_of KX G (by k_is)
        kc_NotWished := by k_is
        r_NotWished := by k_is
        ty_NotWished := by k_is
        x_NotWished := by kernel_rfl
        C_InvalidNumber := _
        g_InvalidNumber := PySem.W.mg_of KX G (by k_is)
        kc_InvalidNumber := by k_is
        r_InvalidNumber := by k_is
        ty_InvalidNumber := by k_is
        x_InvalidNumber := by kernel_rfl
        em_RecorderError_InvalidNumber := DD.exm_of (by k_is) (by k_is) (by k_is) (by k_is)
        em_InvalidSending_InvalidNumber := DD.exm_of (by k_is) (by k_is) (by k_is) (by k_is)
        em_InvalidListing_InvalidNumber := DD.exm_of (by k_is) (by k_is) (by k_is) (by k_is)
        em_UnknownName_InvalidNumber := DD.exm_of (by k_is) (by k_is) (by k_is) (by k_is)
        em_InvalidRule_InvalidNumber := DD.exm_of (by k_is) (by k_is) (by k_is) (by k_is)
        em_InvalidBook_InvalidNumber := DD.exm_of (by k_is) (by k_is) (by k_is) (by k_is)
        em_UnknownEpisode_InvalidNumber := DD.exm_of (by k_is) (by k_is) (by k_is) (by k_is)
        em_NotWished_InvalidNumber := DD.exm_of (by k_is) (by k_is) (by k_is) (by k_is)
        em_InvalidNumber_InvalidNumber := DD.exm_of (by k_is) (by k_is) (by k_is) (by k_is) } (by kernel_rfl)
      exact DD.law_at S.n_tp hT (PySem.W.codeHd_of_K KX S.h_law) (K09_en S hmg) fun ns hl => ⟨ns, rfl, hl, rfl, rfl⟩
