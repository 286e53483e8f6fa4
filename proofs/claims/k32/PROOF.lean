import PyProof.Rows.All
import Wide.All
import OpenK.AllK
import Wide.FinOn
import HandS.ForMost
import HandS.ForExc
import HandS.CallSlots
import HandS.Lambda
import KE.KDflt
import HandS.IsInst
import HandS.Property
import HandS.ExcInit
import HandS.ExcField
import HandS.Walk
import HandS.Defaults
import HandS.TupAny
import HandS.Conv
import HandS.Deep
import PyProof.P3In
import HandS.OwnEq
import PyProof.InstNe
import PyProof.EqLayable
import HandS.Style
import HandS.DictComp
import KE.KDictSum
import PyProof.TupleOfSeq
import KE.SortData
import KE.DataMinMax
import KE.KDictPairs
import HandS.TupLen
import HandS.TupMul
import HandS.ListItems
import HandS.ExcIs
import HandS.Ends
import HandS.EndBits
import KE.KNestM
import HandS.HeadHook4
import HandS.EndTab
import HandS.Records
import HandS.Star
import HandS.TupSets
import HandS.SetBool
import HandS.SortKw
import HandS.ListEq
import HandS.DictEq
import PyProof.NeKinds
import HandS.SetFor
import HandS.FStr
import HandS.Small
import HandS.HotCalls
import HandS.More
import KE.HD2
import PySem.Challenge.RW_fewtuners_k32_whole_choices_that_keep
set_option Elab.async false
set_option linter.all false
set_option maxRecDepth 100000
set_option maxHeartbeats 4000000
namespace DD
open PySem L2
/-- a lambda's text -/
structure LamK where
  params : Arguments
  body : Expr
  scope : Scope
/-- data: what never changes -/
inductive Dt where
  | non | bl (b : Bool) | int (i : Int) | str (x : Str) | raw (v : V)
  | tup (xs : List Dt) | lst (xs : List Dt) | ktu (xs : List Dt) | fls (xs : List Dt) | dic (kvs : List (Key × Dt)) | dtt (kvs : List (List Key × Dt)) | ins (C : Addr) (fs : List (Str × Dt))
  | exc (a : Addr) (d : Option Addr) (C : Addr) (fs : List (Str × Dt))
  | lam (cl : List (Str × Addr)) (k : LamK)
/-- what a slot holds: nothing known, data, an object of one's own -/
inductive Sv where
  | un | dat (d : Dt) | own (p : Addr)
/-- an object of one's own -/
inductive Ob where
  | lst (xs : List Sv) | dic (kvs : List (Key × Sv)) | dtt (kvs : List (List Key × Sv)) | ins (C : Addr) (fs : List (Str × Sv))
  /-- a def's table of code objects, all of the name q; and what is known of that def's slots -/
  | tbl (q : Str) (Δ : List Sv) (σ : List (Option V))
abbrev Store := List (Addr × Ob)
abbrev keys (st : Store) : List Addr := st.map (·.1)
/-- a known tuple; the empty one may be the module's -/
def TuI (K : PySem.W.Frag) (I : Hp) (a : Addr) (vs : List V) : Prop := I a = some (.tup vs) ∨ (vs = [] ∧ SqT K I a [])
theorem TuI.st {K : PySem.W.Frag} {I : Hp} {a : Addr} {vs : List V} (h : TuI K I a vs) : SqT K I a vs := by
  rcases h with h | ⟨rfl, h⟩
  · exact .inl (.inl h)
  · exact h
/-- a lambda's default: none, or 0 -/
def DefIs (I : Hp) (k : LamK) (dV : Value) : Prop := (k.params.defaults = [] ∧ dV = .none) ∨ (k.params.defaults ≠ [] ∧ ∃ T, dV = .ref T ∧ I T = some (.tup [.int 0]))
abbrev lamO (q : Str) (cl : List (Str × Addr)) (k : LamK) (dV doc pm : Value) (c' : Addr) (ctv : Value) : Obj :=
  PySem.W.kdv_obj "<lambda>" q k.params (.expr k.body) k.scope (cloFrom cl k.scope.names []) dV doc pm c' ctv
mutual
inductive IsD (K : PySem.W.Frag) (I : Hp) : Dt → V → Prop
  | non : IsD K I .non .non
  | bl (b : Bool) : IsD K I (.bl b) (.bl b)
  | int (i : Int) : IsD K I (.int i) (.int i)
  | str (x : Str) : IsD K I (.str x) (.str x)
  | raw (v : V) : IsD K I (.raw v) v
  | tup {ds : List Dt} {vs : List V} {a : Addr} : TuI K I a vs → IsDs K I ds vs → IsD K I (.tup ds) (.ref a)
  | lst {ds : List Dt} {vs : List V} {a : Addr} : I a = some (.lst vs) → IsDs K I ds vs → IsD K I (.lst ds) (.ref a)
  | ktu {ds : List Dt} {vs : List V} {a : Addr} : SqT K I a vs → IsDs K I ds vs → IsD K I (.ktu ds) (.ref a)
  | fls {ds : List Dt} {vs : List V} {a : Addr} : SqL K I a vs → IsDs K I ds vs → IsD K I (.fls ds) (.ref a)
  | dic {ds : List (Key × Dt)} {vs : List (Key × V)} {a : Addr} : Rd I a (.dK vs) → IsDk K I ds vs → IsD K I (.dic ds) (.ref a)
  | dtt {ds : List (List Key × Dt)} {vs : List (List Key × V)} {a : Addr} : Rd I a (.dT vs) → IsDt K I ds vs → IsD K I (.dtt ds) (.ref a)
  | ins {C : Addr} {ds : List (Str × Dt)} {vs : List (Str × V)} {a dx : Addr} : I a = some (.ins C dx vs) → IsDf K I ds vs → IsD K I (.ins C ds) (.ref a)
  | exc {a dd C : Addr} {ds : List (Str × Dt)} {vs : List (Str × V)} : I dd = some (.xd vs) → IsDf K I ds vs → IsD K I (.exc a (some dd) C ds) (.ref a)
  | exc0 {a C : Addr} : IsD K I (.exc a none C []) (.ref a)
  | lam {cl : List (Str × Addr)} {k : LamK} {f c' : Addr} {q : Str} {dV doc pm ctv : Value} : I f = some (.frz (lamO q cl k dV doc pm c' ctv) (.ext fun _ => True)) → I c' = some (LamX.CodeO c' q) → DefIs I k dV → IsD K I (.lam cl k) (.ref f)
inductive IsDs (K : PySem.W.Frag) (I : Hp) : List Dt → List V → Prop
  | nil : IsDs K I [] []
  | cons {d : Dt} {v : V} {ds : List Dt} {vs : List V} : IsD K I d v → IsDs K I ds vs → IsDs K I (d :: ds) (v :: vs)
inductive IsDk (K : PySem.W.Frag) (I : Hp) : List (Key × Dt) → List (Key × V) → Prop
  | nil : IsDk K I [] []
  | cons {k : Key} {d : Dt} {v : V} {ds : List (Key × Dt)} {vs : List (Key × V)} : IsD K I d v → IsDk K I ds vs → IsDk K I ((k, d) :: ds) ((k, v) :: vs)
inductive IsDt (K : PySem.W.Frag) (I : Hp) : List (List Key × Dt) → List (List Key × V) → Prop
  | nil : IsDt K I [] []
  | cons {k : List Key} {d : Dt} {v : V} {ds : List (List Key × Dt)} {vs : List (List Key × V)} : IsD K I d v → IsDt K I ds vs → IsDt K I ((k, d) :: ds) ((k, v) :: vs)
inductive IsDf (K : PySem.W.Frag) (I : Hp) : List (Str × Dt) → List (Str × V) → Prop
  | nil : IsDf K I [] []
  | cons {k : Str} {d : Dt} {v : V} {ds : List (Str × Dt)} {vs : List (Str × V)} : IsD K I d v → IsDf K I ds vs → IsDf K I ((k, d) :: ds) ((k, v) :: vs)
end
/-- a heap that extends another one -/
def Ex (I I' : Hp) : Prop := ∀ a o, I a = some o → I' a = some o
theorem Ex.refl (I : Hp) : Ex I I := fun _ _ h => h
theorem Ex.trans {I J L : Hp} (a : Ex I J) (b : Ex J L) : Ex I L := fun x o h => b x o (a x o h)
theorem Ex.new {H : Hp} {p : Addr} {o : HO} (h : H p = none) : Ex H (upd H p o) := fun a u e => by
  rw [upd_ne (ne_of_none e h)]
  exact e
theorem Ex.rd {I I' : Hp} (e : Ex I I') {a : Addr} {u : HO} (h : Rd I a u) : Rd I' a u := by
  rcases h with h | ⟨o, h⟩
  · exact Or.inl (e a _ h)
  · exact Or.inr ⟨o, e a _ h⟩
theorem Ex.sl {K : PySem.W.Frag} {I I' : Hp} (e : Ex I I') {a : Addr} {xs : List V} (h : SqL K I a xs) : SqL K I' a xs := h.imp e.rd id
theorem Ex.st {K : PySem.W.Frag} {I I' : Hp} (e : Ex I I') {a : Addr} {xs : List V} (h : SqT K I a xs) : SqT K I' a xs := h.imp e.rd id
theorem TuI.mono {K : PySem.W.Frag} {I I' : Hp} (e : Ex I I') {a : Addr} {vs : List V} (h : TuI K I a vs) : TuI K I' a vs := h.imp (e _ _) fun ⟨x, y⟩ => ⟨x, e.st y⟩
theorem DefIs.mono {I I' : Hp} (e : Ex I I') {k : LamK} {dV : Value} (h : DefIs I k dV) : DefIs I' k dV := h.imp id fun ⟨a, T, b, c⟩ => ⟨a, T, b, e _ _ c⟩
mutual
theorem IsD.mono {K : PySem.W.Frag} {I I' : Hp} (e : Ex I I') : ∀ {d : Dt} {v : V}, IsD K I d v → IsD K I' d v
  | _, _, .non => .non
  | _, _, .bl b => .bl b
  | _, _, .int i => .int i
  | _, _, .str x => .str x
  | _, _, .raw v => .raw v
  | _, _, .tup h r => .tup (h.mono e) (IsDs.mono e r)
  | _, _, .lst h r => .lst (e _ _ h) (IsDs.mono e r)
  | _, _, .ktu h r => .ktu (e.st h) (IsDs.mono e r)
  | _, _, .fls h r => .fls (e.sl h) (IsDs.mono e r)
  | _, _, .dic h r => .dic (e.rd h) (IsDk.mono e r)
  | _, _, .dtt h r => .dtt (e.rd h) (IsDt.mono e r)
  | _, _, .ins h r => .ins (e _ _ h) (IsDf.mono e r)
  | _, _, .exc h r => .exc (e _ _ h) (IsDf.mono e r)
  | _, _, .exc0 => .exc0
  | _, _, .lam a b c => .lam (e _ _ a) (e _ _ b) (c.mono e)
theorem IsDs.mono {K : PySem.W.Frag} {I I' : Hp} (e : Ex I I') : ∀ {d : List Dt} {v : List V}, IsDs K I d v → IsDs K I' d v
  | _, _, .nil => .nil
  | _, _, .cons h r => .cons (IsD.mono e h) (IsDs.mono e r)
theorem IsDk.mono {K : PySem.W.Frag} {I I' : Hp} (e : Ex I I') : ∀ {d : List (Key × Dt)} {v : List (Key × V)}, IsDk K I d v → IsDk K I' d v
  | _, _, .nil => .nil
  | _, _, .cons h r => .cons (IsD.mono e h) (IsDk.mono e r)
theorem IsDt.mono {K : PySem.W.Frag} {I I' : Hp} (e : Ex I I') : ∀ {d : List (List Key × Dt)} {v : List (List Key × V)}, IsDt K I d v → IsDt K I' d v
  | _, _, .nil => .nil
  | _, _, .cons h r => .cons (IsD.mono e h) (IsDt.mono e r)
theorem IsDf.mono {K : PySem.W.Frag} {I I' : Hp} (e : Ex I I') : ∀ {d : List (Str × Dt)} {v : List (Str × V)}, IsDf K I d v → IsDf K I' d v
  | _, _, .nil => .nil
  | _, _, .cons h r => .cons (IsD.mono e h) (IsDf.mono e r)
end
inductive IsS (K : PySem.W.Frag) (I : Hp) : Sv → V → Prop
  | dat {d : Dt} {v : V} : IsD K I d v → IsS K I (.dat d) v
  | own (p : Addr) : IsS K I (.own p) (.ref p)
theorem IsS.mono {K : PySem.W.Frag} {I I' : Hp} (e : Ex I I') {s : Sv} {v : V} : IsS K I s v → IsS K I' s v
  | .dat h => .dat (h.mono e)
  | .own p => .own p
abbrev IsSs (K : PySem.W.Frag) (I : Hp) : List Sv → List V → Prop := Paired (IsS K I)
def RK (K : PySem.W.Frag) (I : Hp) {κ : Type} (a : κ × Sv) (b : κ × V) : Prop := a.1 = b.1 ∧ IsS K I a.2 b.2
theorem RK.mono {K : PySem.W.Frag} {I I' : Hp} (e : Ex I I') {κ : Type} {a : κ × Sv} {b : κ × V} (h : RK K I a b) : RK K I' a b := ⟨h.1, h.2.mono e⟩
theorem paired_mono {α β : Type} {F G : α → β → Prop} (h : ∀ a b, F a b → G a b) : ∀ {xs : List α} {ys : List β}, Paired F xs ys → Paired G xs ys
  | _, _, .nil => .nil
  | _, _, .cons r t => .cons (h _ _ r) (paired_mono h t)
/-- what an own object is in the heap -/
inductive ObIs (K : PySem.W.Frag) (I : Hp) : Ob → HO → Prop
  | lst {xs : List Sv} {vs : List V} : IsSs K I xs vs → ObIs K I (.lst xs) (.lst vs)
  | dic {xs : List (Key × Sv)} {vs : List (Key × V)} : Paired (RK K I) xs vs → ObIs K I (.dic xs) (.dK vs)
  | dtt {xs : List (List Key × Sv)} {vs : List (List Key × V)} : Paired (RK K I) xs vs → ObIs K I (.dtt xs) (.dT vs)
  | ins {C dx : Addr} {xs : List (Str × Sv)} {vs : List (Str × V)} : Paired (RK K I) xs vs → ObIs K I (.ins C xs) (.ins C dx vs)
  | tbl {q : Str} {Δ : List Sv} {σ : List (Option V)} {ps : Array Value} : TriplesOk ps.toList → (∀ (pos : Pos) (cv : Value), codeAmong pos ps.toList = some cv → ∃ c, cv = .ref c ∧ I c = some (LamX.CodeO c q)) →
      σ.length = Δ.length → (∀ (i : Nat) (s : Sv), Δ[i]? = some s → s = .un ∨ ∃ v, σ[i]? = some (some v) ∧ IsS K I s v) → ObIs K I (.tbl q Δ σ) (.tbl ps)
theorem ObIs.mono {K : PySem.W.Frag} {I I' : Hp} (e : Ex I I') {ob : Ob} {o : HO} : ObIs K I ob o → ObIs K I' ob o
  | .lst h => .lst (paired_mono (fun _ _ => IsS.mono e) h)
  | .dic h => .dic (paired_mono (fun _ _ => RK.mono e) h)
  | .dtt h => .dtt (paired_mono (fun _ _ => RK.mono e) h)
  | .ins h => .ins (paired_mono (fun _ _ => RK.mono e) h)
  | .tbl h1 h2 h3 h4 => .tbl h1 (fun p cv hc => let ⟨c, a, b⟩ := h2 p cv hc; ⟨c, a, e _ _ b⟩) h3 fun i s hs => (h4 i s hs).imp id fun ⟨v, a, b⟩ => ⟨v, a, b.mono e⟩
/-- what is known stands in the heap (a dict perhaps locked) -/
def Sub (I H : Hp) : Prop := ∀ a o, I a = some o → H a = some o ∨ (((∃ k, o = .dK k) ∨ ∃ k, o = .dT k) ∧ ∃ ob, H a = some (.frz ob o))
theorem Sub.rd {I H : Hp} (s : Sub I H) {a : Addr} {u : HO} (h : Rd I a u) : Rd H a u := by
  rcases h with h | ⟨o, h⟩
  · rcases s a _ h with h | ⟨_, ob, h⟩
    · exact .inl h
    · exact .inr ⟨ob, h⟩
  · rcases s a _ h with h | ⟨h | h, _⟩
    · exact .inr ⟨o, h⟩
    · obtain ⟨k, h⟩ := h; cases h
    · obtain ⟨k, h⟩ := h; cases h
theorem Sub.sl {K : PySem.W.Frag} {I H : Hp} (s : Sub I H) {a : Addr} {xs : List V} (h : SqL K I a xs) : SqL K H a xs := h.imp s.rd id
theorem Sub.st {K : PySem.W.Frag} {I H : Hp} (s : Sub I H) {a : Addr} {xs : List V} (h : SqT K I a xs) : SqT K H a xs := h.imp s.rd id
theorem Sub.at {I H : Hp} (s : Sub I H) {a : Addr} {o : HO} (h : I a = some o) (n : ∀ k, o ≠ .dK k) (m : ∀ k, o ≠ .dT k) : H a = some o := by
  rcases s a _ h with h | ⟨⟨k, h⟩ | ⟨k, h⟩, _⟩
  · exact h
  · exact absurd h (n k)
  · exact absurd h (m k)
theorem Sub.none {I H : Hp} (s : Sub I H) {a : Addr} (h : H a = none) : I a = none := by
  cases e : I a with
  | none => rfl
  | some o =>
    rcases s a _ e with q | ⟨_, ob, q⟩ <;> rw [h] at q <;> cases q
/-- a world: known things, own things -/
structure Wd (K : PySem.W.Frag) (st : Store) (I H : Hp) : Prop where
  sub : Sub I H
  own : ∀ p ob, (p, ob) ∈ st → I p = none ∧ ∃ o, H p = some o ∧ ObIs K I ob o
  nd : (keys st).Nodup
/-- from one world to a later one -/
structure Stp (st : Store) (I H : Hp) (st' : Store) (I' H' : Hp) : Prop where
  ii : Ex I I'
  hh : ∀ a o, a ∉ keys st → H a = some o → H' a = some o
  nw : ∀ a, I' a ≠ none → I a ≠ none ∨ H a = none ∨ a ∈ keys st ∨ ∃ vs, H a = some (.tup vs)
  ks : ∀ p, p ∈ keys st' → p ∈ keys st ∨ H p = none
theorem Stp.refl (st : Store) (I H : Hp) : Stp st I H st I H := ⟨Ex.refl _, fun _ _ _ h => h, fun _ h => .inl h, fun _ h => .inl h⟩
theorem Stp.trans {st st1 st2 : Store} {I I1 I2 H H1 H2 : Hp} (a : Stp st I H st1 I1 H1) (b : Stp st1 I1 H1 st2 I2 H2) : Stp st I H st2 I2 H2 := by
  have back : ∀ p, p ∉ keys st → H1 p = none → H p = none := fun p hp h => by
    cases e : H p with
    | none => rfl
    | some o =>
      have q := a.hh p o hp e
      rw [h] at q
      cases q
  refine ⟨a.ii.trans b.ii, fun p o hp h => ?_, fun p h => ?_, fun p h => ?_⟩
  · refine b.hh p o (fun z => ?_) (a.hh p o hp h)
    rcases a.ks p z with q | q
    · exact hp q
    · rw [h] at q
      cases q
  · rcases b.nw p h with q | q | q | ⟨vs, q⟩
    · exact a.nw p q
    · by_cases hp : p ∈ keys st
      · exact .inr (.inr (.inl hp))
      · exact .inr (.inl (back p hp q))
    · rcases a.ks p q with q | q
      · exact .inr (.inr (.inl q))
      · exact .inr (.inl q)
    · by_cases hp : p ∈ keys st
      · exact .inr (.inr (.inl hp))
      · cases e : H p with
        | none => exact .inr (.inl rfl)
        | some o =>
          have z := a.hh p o hp e
          rw [q] at z
          cases z
          exact .inr (.inr (.inr ⟨vs, rfl⟩))
  · rcases b.ks p h with q | q
    · exact a.ks p q
    · by_cases hp : p ∈ keys st
      · exact .inl hp
      · exact .inr (back p hp q)
/-- the slots -/
def Sl (K : PySem.W.Frag) (Δ : List Sv) (I : Hp) (σ : St) : Prop := σ.length = Δ.length ∧ ∀ (i : Nat) (s : Sv), Δ[i]? = some s → s = .un ∨ ∃ v, σ[i]? = some (some v) ∧ IsS K I s v
theorem Sl.mono {K : PySem.W.Frag} {Δ : List Sv} {I I' : Hp} {σ : St} (e : Ex I I') (h : Sl K Δ I σ) : Sl K Δ I' σ := ⟨h.1, fun i s hs => (h.2 i s hs).imp id fun ⟨v, a, b⟩ => ⟨v, a, b.mono e⟩⟩
theorem Sl.set {K : PySem.W.Frag} {Δ : List Sv} {I : Hp} {σ : St} (h : Sl K Δ I σ) {i : Nat} {s : Sv} {v : V} (hv : IsS K I s v) : Sl K (Δ.set i s) I (σ.set i (some v)) := by
  refine ⟨by rw [List.length_set, List.length_set]; exact h.1, fun j t ht => ?_⟩
  by_cases e : i = j
  · subst e
    have hl : i < Δ.length := by
      have := (List.getElem?_eq_some_iff.mp ht).1
      rwa [List.length_set] at this
    rw [List.getElem?_set_self hl] at ht
    cases ht
    exact .inr ⟨v, List.getElem?_set_self (by rw [h.1]; exact hl), hv⟩
  · rw [List.getElem?_set_ne e] at ht
    rw [List.getElem?_set_ne e]
    exact h.2 j t ht
/-- an exception: its class, its fields -/
structure Xc where
  C : Addr
  fs : List (Str × Dt)
def XIs (K : PySem.W.Frag) (I H : Hp) (x : Xc) (cls : Value) (d : Option Addr) : Prop := cls = .ref x.C ∧ ((x.fs = [] ∧ d = none) ∨ x.fs ≠ [] ∧ ∃ dd vs, d = some dd ∧ I dd = some (.xd vs) ∧ IsDf K I x.fs vs)
/-- readings -/
abbrev OK := Sv → Store → Prop
abbrev EK := Xc → Store → Prop
abbrev DE := List Sv → Store → OK → EK → Prop
abbrev DT := List Sv → Store → (Bool → Store → Prop) → EK → Prop
abbrev DA := List Sv → Store → (List Sv → Store → Prop) → EK → Prop
structure DN where
  nx : List Sv → Store → Prop
  rt : OK
  bk : List Sv → Store → Prop
  ct : List Sv → Store → Prop
  ex : Xc → List Sv → Store → Prop
abbrev DS := List Sv → Store → DN → Prop
section
variable (K : PySem.W.Frag)
def Cont (st : Store) (I H : Hp) (ok : OK) (Q : VK) : Prop := ∀ s st' v I' H', ok s st' → Wd K st' I' H' → Stp st I H st' I' H' → IsS K I' s v → Q v H'
def ContB (st : Store) (I H : Hp) (ok : Bool → Store → Prop) (Q : Bool → Hp → Prop) : Prop := ∀ b st' I' H', ok b st' → Wd K st' I' H' → Stp st I H st' I' H' → Q b H'
def ContA (st : Store) (I H : Hp) (ok : List Sv → Store → Prop) (Q : List V → Hp → Prop) : Prop := ∀ ss st' vs I' H', ok ss st' → Wd K st' I' H' → Stp st I H st' I' H' → IsSs K I' ss vs → Q vs H'
def ContX (st : Store) (I H : Hp) (ex : EK) (Q : Value → Option Addr → Hp → Prop) : Prop := ∀ x st' cls d I' H', ex x st' → Wd K st' I' H' → Stp st I H st' I' H' → XIs K I' H' x cls d → Q cls d H'
def low (t : DE) (W : WX) : TE := fun σ H Q => ∃ Δ st I ok ex, Wd K st I H ∧ Sl K Δ I σ ∧ t Δ st ok ex ∧ Cont K st I H ok Q ∧ ContX K st I H ex fun cls d H' => W cls d σ H'
def lowT (t : DT) (W : WX) : TT := fun σ H Q => ∃ Δ st I ok ex, Wd K st I H ∧ Sl K Δ I σ ∧ t Δ st ok ex ∧ ContB K st I H ok Q ∧ ContX K st I H ex fun cls d H' => W cls d σ H'
def lowA (t : DA) (W : WX) : TA := fun σ H Q => ∃ Δ st I ok ex, Wd K st I H ∧ Sl K Δ I σ ∧ t Δ st ok ex ∧ ContA K st I H ok Q ∧ ContX K st I H ex fun cls d H' => W cls d σ H'
def ContS (st : Store) (I H : Hp) (n : List Sv → Store → Prop) (Q : St → Hp → Prop) : Prop := ∀ Δ' st' σ' I' H', n Δ' st' → Wd K st' I' H' → Stp st I H st' I' H' → Sl K Δ' I' σ' → Q σ' H'
structure Ends_ (st : Store) (I H : Hp) (N : DN) (W : WX) (D : Ends) : Prop where
  nx : ContS K st I H N.nx D.nx
  rt : Cont K st I H N.rt D.rt
  bk : ContS K st I H N.bk D.bk
  ct : ContS K st I H N.ct D.ct
  ex : ∀ x Δ' st' cls d σ' I' H', N.ex x Δ' st' → Wd K st' I' H' → Stp st I H st' I' H' → Sl K Δ' I' σ' → XIs K I' H' x cls d → W cls d σ' H'
def lowS (t : DS) (W : WX) : TS := fun D σ H => ∃ Δ st I N, Wd K st I H ∧ Sl K Δ I σ ∧ t Δ st N ∧ Ends_ K st I H N W D
end
/-- a tuple that stands in the heap may be known -/
theorem know_tup {K : PySem.W.Frag} {st : Store} {I H : Hp} {q : Addr} {vs : List V} (w : Wd K st I H) (h : H q = some (.tup vs)) : Wd K st (upd I q (.tup vs)) H ∧ Stp st I H st (upd I q (.tup vs)) H := by
  have ex : Ex I (upd I q (.tup vs)) := fun a o e => by
    by_cases z : a = q
    · subst z
      rw [upd_same]
      rcases w.sub a o e with g | ⟨⟨k, g⟩ | ⟨k, g⟩, ob, g2⟩
      · rw [h] at g; exact g
      · rw [h] at g2; cases g2
      · rw [h] at g2; cases g2
    · rw [upd_ne z]; exact e
  refine ⟨⟨fun a o e => ?_, fun p ob hp => ?_, w.nd⟩, ⟨ex, fun _ _ _ e => e, fun a e => ?_, fun _ z => .inl z⟩⟩
  · by_cases z : a = q
    · subst z
      rw [upd_same] at e
      cases e
      exact .inl h
    · rw [upd_ne z] at e
      exact w.sub a o e
  · obtain ⟨h1, o, h2, h3⟩ := w.own p ob hp
    have ne : p ≠ q := fun z => by
      subst z
      rw [h] at h2
      cases h2
      cases h3
    exact ⟨by rw [upd_ne ne]; exact h1, o, h2, h3.mono ex⟩
  · by_cases z : a = q
    · subst z
      exact .inr (.inr (.inr ⟨vs, h⟩))
    · rw [upd_ne z] at e
      exact .inl e
section
variable {K : PySem.W.Frag} {st st1 : Store} {I I1 H H1 : Hp}
theorem Cont.go {ok : OK} {Q : VK} (c : Cont K st I H ok Q) (s : Stp st I H st1 I1 H1) : Cont K st1 I1 H1 ok Q := fun x st' v I' H' h w s' i => c x st' v I' H' h w (s.trans s') i
theorem ContB.go {ok : Bool → Store → Prop} {Q : Bool → Hp → Prop} (c : ContB K st I H ok Q) (s : Stp st I H st1 I1 H1) : ContB K st1 I1 H1 ok Q := fun x st' I' H' h w s' => c x st' I' H' h w (s.trans s')
theorem ContA.go {ok : List Sv → Store → Prop} {Q : List V → Hp → Prop} (c : ContA K st I H ok Q) (s : Stp st I H st1 I1 H1) : ContA K st1 I1 H1 ok Q := fun x st' v I' H' h w s' i => c x st' v I' H' h w (s.trans s') i
theorem ContX.go {ex : EK} {Q : Value → Option Addr → Hp → Prop} (c : ContX K st I H ex Q) (s : Stp st I H st1 I1 H1) : ContX K st1 I1 H1 ex Q := fun x st' cls d I' H' h w s' i => c x st' cls d I' H' h w (s.trans s') i
theorem ContS.go {n : List Sv → Store → Prop} {Q : St → Hp → Prop} (c : ContS K st I H n Q) (s : Stp st I H st1 I1 H1) : ContS K st1 I1 H1 n Q := fun x st' v I' H' h w s' i => c x st' v I' H' h w (s.trans s') i
theorem Ends_.go {N : DN} {W : WX} {D : Ends} (c : Ends_ K st I H N W D) (s : Stp st I H st1 I1 H1) : Ends_ K st1 I1 H1 N W D :=
  ⟨c.nx.go s, c.rt.go s, c.bk.go s, c.ct.go s, fun x Δ' st' cls d σ' I' H' h w s' l i => c.ex x Δ' st' cls d σ' I' H' h w (s.trans s') l i⟩
theorem Cont.now {ok : OK} {Q : VK} (c : Cont K st I H ok Q) (w : Wd K st I H) {s : Sv} {v : V} (h : ok s st) (i : IsS K I s v) : Q v H := c s st v I H h w (Stp.refl _ _ _) i
end
section
variable {X : Cx} {e : Expr} {es : List Expr} {s : Stmt} {ss : List Stmt}
theorem PE.imp {t t' : TE} (h : PE X e t) (i : ∀ σ H Q, t' σ H Q → t σ H Q) : PE X e t' := ⟨fun pins s σ H Q J q => h.run pins s σ H Q J (i σ H Q q)⟩
theorem PT.imp {t t' : TT} (h : PT X e t) (i : ∀ σ H Q, t' σ H Q → t σ H Q) : PT X e t' := ⟨fun pins s σ H Q J q => h.run pins s σ H Q J (i σ H Q q)⟩
theorem PA.imp {t t' : TA} (h : PA X es t) (i : ∀ σ H Q, t' σ H Q → t σ H Q) : PA X es t' := ⟨fun pos pins s σ H Q J q => h.run pos pins s σ H Q J (i σ H Q q)⟩
theorem PS.imp {t t' : TS} (h : PS X s t) (i : ∀ D σ H, t' D σ H → t D σ H) : PS X s t' := ⟨fun pins s σ H D J q => h.run pins s σ H D J (i D σ H q)⟩
theorem PSs.imp {t t' : TS} (h : PSs X ss t) (i : ∀ D σ H, t' D σ H → t D σ H) : PSs X ss t' := ⟨fun pins s σ H D J q => h.run pins s σ H D J (i D σ H q)⟩
end
end DD
namespace DD
open PySem L2
def dVar (i : Nat) : DE := fun Δ st ok _ => match Δ.getD i .un with
  | .un => False
  | s => ok s st
def dC (d : Dt) : DE := fun _ st ok _ => ok (.dat d) st
abbrev G2 := Sv → Sv → Store → OK → Prop
def dOp (g : G2) (ta tb : DE) : DE := fun Δ st ok ex => ta Δ st (fun x st1 => tb Δ st1 (fun y st2 => g x y st2 ok) ex) ex
/-- ints in -/
def gI (C : Int → Int → Prop) (f : Int → Int → Dt) : G2 := fun x y st ok => match x, y with
  | .dat (.int i), .dat (.int j) => C i j ∧ ok (.dat (f i j)) st
  | _, _ => False
def gI0 (f : Int → Int → Dt) : G2 := fun x y st ok => match x, y with
  | .dat (.int i), .dat (.int j) => ok (.dat (f i j)) st
  | _, _ => False
def dAnd (ta tb : DE) : DE := fun Δ st ok ex => ta Δ st (fun x st1 => match x with
  | .dat (.bl c) => (c = true → tb Δ st1 ok ex) ∧ (c = false → ok (.dat (.bl false)) st1)
  | _ => False) ex
def dNot (ta : DE) : DE := fun Δ st ok ex => ta Δ st (fun x st1 => match x with
  | .dat (.bl c) => ok (.dat (.bl (!c))) st1
  | _ => False) ex
def dIf (t : DT) (ta tb : DE) : DE := fun Δ st ok ex => t Δ st (fun c st1 => (c = true → ta Δ st1 ok ex) ∧ (c = false → tb Δ st1 ok ex)) ex
/-- tests -/
def dTest (t : DE) : DT := fun Δ st ok ex => t Δ st (fun x st1 => match x with
  | .dat (.bl c) => ok c st1
  | _ => False) ex
def dAndT (ta tb : DT) : DT := fun Δ st ok ex => ta Δ st (fun c st1 => (c = true → tb Δ st1 ok ex) ∧ (c = false → ok false st1)) ex
def dOrT (ta tb : DT) : DT := fun Δ st ok ex => ta Δ st (fun c st1 => (c = true → ok true st1) ∧ (c = false → tb Δ st1 ok ex)) ex
def dNotT (ta : DT) : DT := fun Δ st ok ex => ta Δ st (fun c st1 => ok (!c) st1) ex
def dChain (g g' : G2) (ta tb tc : DE) : DE := fun Δ st ok ex => ta Δ st (fun x st1 => tb Δ st1 (fun y st2 => g x y st2 fun z st3 => match z with
  | .dat (.bl c) => (c = true → tc Δ st3 (fun w st4 => g' y w st4 ok) ex) ∧ (c = false → ok (.dat (.bl false)) st3)
  | _ => False) ex) ex
/-- arguments -/
def dNil : DA := fun _ st ok _ => ok [] st
def dCons (ta : DE) (tr : DA) : DA := fun Δ st ok ex => ta Δ st (fun x st1 => tr Δ st1 (fun xs st2 => ok (x :: xs) st2) ex) ex
/-- all of it data -/
inductive AllD : List Sv → List Dt → Prop
  | nil : AllD [] []
  | cons {d : Dt} {xs : List Sv} {ds : List Dt} : AllD xs ds → AllD (.dat d :: xs) (d :: ds)
theorem AllD.map : ∀ ds : List Dt, AllD (ds.map Sv.dat) ds
  | [] => .nil
  | _ :: ds => .cons (AllD.map ds)
theorem AllD.mapf {α : Type} (f : α → Dt) : ∀ xs : List α, AllD (xs.map fun x => Sv.dat (f x)) (xs.map f)
  | [] => .nil
  | _ :: xs => .cons (AllD.mapf f xs)
theorem AllD.app : ∀ {xs ys : List Sv} {ds es : List Dt}, AllD xs ds → AllD ys es → AllD (xs ++ ys) (ds ++ es)
  | _, _, _, _, .nil, h => h
  | _, _, _, _, .cons a, h => .cons (AllD.app a h)
def allD? : List Sv → Option (List Dt)
  | [] => some []
  | .dat d :: r => (allD? r).map (d :: ·)
  | _ :: _ => none
theorem allD_of : ∀ {xs : List Sv} {ds : List Dt}, allD? xs = some ds → AllD xs ds
  | [], _, h => by cases h; exact .nil
  | .dat d :: r, ds, h => by
    cases e : allD? r with
    | none =>
      have h' : (allD? r).map (d :: ·) = some ds := h
      rw [e] at h'
      cases h'
    | some es =>
      have h' : (allD? r).map (d :: ·) = some ds := h
      rw [e] at h'
      cases h'
      exact .cons (allD_of e)
  | .un :: _, _, h => by cases h
  | .own _ :: _, _, h => by cases h
/-- displays: data -/
def dTup (t : DA) : DE := fun Δ st ok ex => t Δ st (fun xs st1 => match allD? xs with
  | some ds => ok (.dat (.tup ds)) st1
  | none => False) ex
def dLst (t : DA) : DE := fun Δ st ok ex => t Δ st (fun xs st1 => match allD? xs with
  | some ds => ok (.dat (.lst ds)) st1
  | none => False) ex
/-- a list of one's own -/
def dLstO (t : DA) : DE := fun Δ st ok ex => t Δ st (fun xs st1 => ∀ p, p ∉ keys st1 → ok (.own p) ((p, .lst xs) :: st1)) ex
/-- a call -/
abbrev Ct := List Sv → Store → OK → EK → Prop
def dCall (ct : Ct) (dds : List Dt) (t : DA) : DE := fun Δ st ok ex => t Δ st (fun xs st1 => ct (xs ++ dds.map Sv.dat) st1 ok ex) ex
def lowF (K : PySem.W.Frag) (ct : Ct) : Sp := fun vs H Q E => ∃ ss st I ok ex, Wd K st I H ∧ IsSs K I ss vs ∧ ct ss st ok ex ∧ Cont K st I H ok Q ∧ ContX K st I H ex E
def dNext : DS := fun Δ st N => N.nx Δ st
def dSeq (t u : DS) : DS := fun Δ st N => t Δ st { N with nx := fun Δ1 st1 => u Δ1 st1 N }
def exAt (N : DN) (Δ : List Sv) : EK := fun x st => N.ex x Δ st
def dAsg (i : Nat) (t : DE) : DS := fun Δ st N => t Δ st (fun s st1 => N.nx (Δ.set i s) st1) (exAt N Δ)
def dRet (t : DE) : DS := fun Δ st N => t Δ st (fun s st1 => N.rt s st1) (exAt N Δ)
def dDrop (t : DE) : DS := fun Δ st N => t Δ st (fun _ st1 => N.nx Δ st1) (exAt N Δ)
def dIfS (c : DT) (t u : DS) : DS := fun Δ st N => c Δ st (fun b st1 => (b = true → t Δ st1 N) ∧ (b = false → u Δ st1 N)) (exAt N Δ)
section
variable {K : PySem.W.Frag} {W : WX} {st : Store} {I H : Hp}
theorem paired_app {α β : Type} {F : α → β → Prop} : ∀ {xs : List α} {ys : List β} {xs' : List α} {ys' : List β}, Paired F xs ys → Paired F xs' ys' → Paired F (xs ++ xs') (ys ++ ys')
  | _, _, _, _, .nil, h => h
  | _, _, _, _, .cons r t, h => .cons r (paired_app t h)
def LR2 (K : PySem.W.Frag) (r : R2) (g : G2) : Prop := ∀ x y st I H ok Q v w, Wd K st I H → IsS K I x v → IsS K I y w → g x y st ok → Cont K st I H ok Q → r v w H Q
theorem low_var {i : Nat} : ∀ σ H Q, low K (dVar i) W σ H Q → tVar i σ H Q := by
  rintro σ H Q ⟨Δ, st, I, ok, ex, wd, sl, h, c, _⟩
  cases e : Δ[i]? with
  | none =>
    have z : Δ.getD i .un = .un := by rw [List.getD_eq_getElem?_getD, e]; rfl
    unfold dVar at h
    rw [z] at h
    exact h.elim
  | some s =>
    have z : Δ.getD i .un = s := by rw [List.getD_eq_getElem?_getD, e]; rfl
    unfold dVar at h
    rw [z] at h
    rcases sl.2 i s e with q | ⟨v, hv, hi⟩
    · subst q
      exact h.elim
    · refine ⟨v, hv, c.now wd ?_ hi⟩
      cases s with
      | un => exact h.elim
      | dat d => exact h
      | own p => exact h
theorem low_c {d : Dt} {v : V} (hd : ∀ I, IsD K I d v) : ∀ σ H Q, low K (dC d) W σ H Q → tC v σ H Q := by
  rintro σ H Q ⟨Δ, st, I, ok, ex, wd, sl, h, c, _⟩
  exact c.now wd h (.dat (hd I))
/-- from one reading into the next -/
theorem low_go {t : DE} {Δ : List Sv} {σ : St} {ok : OK} {ex : EK} {Q : VK} (wd : Wd K st I H) (sl : Sl K Δ I σ) (h : t Δ st ok ex) (k : ∀ s st' v I' H', ok s st' → Wd K st' I' H' → Stp st I H st' I' H' → IsS K I' s v → Q v H')
    (kx : ContX K st I H ex fun cls d H' => W cls d σ H') : low K t W σ H Q := ⟨Δ, st, I, ok, ex, wd, sl, h, k, kx⟩
theorem low_op {r : R2} {g : G2} {ta tb : DE} (hr : LR2 K r g) : ∀ σ H Q, low K (dOp g ta tb) W σ H Q → tOp r (low K ta W) (low K tb W) σ H Q := by
  rintro σ H Q ⟨Δ, st, I, ok, ex, wd, sl, h, c, cx⟩
  refine low_go wd sl h (fun x st1 v I1 H1 h1 w1 s1 i1 => ?_) cx
  refine low_go w1 (sl.mono s1.ii) h1 (fun y st2 w I2 H2 h2 w2 s2 i2 => ?_) (cx.go s1)
  exact hr x y st2 I2 H2 ok Q v w w2 (i1.mono s2.ii) i2 h2 (c.go (s1.trans s2))
theorem lr_I {C : Int → Int → Prop} {f : Int → Int → Dt} {g : Int → Int → V} (hf : ∀ K I i j, IsD K I (f i j) (g i j)) : LR2 K (rI C g) (gI C f) := by
  intro x y st I H ok Q v w wd ix iy h c
  cases ix with
  | own p => exact h.elim
  | dat hx =>
    cases hx with
    | int i =>
      cases iy with
      | own p => exact h.elim
      | dat hy =>
        cases hy with
        | int j => exact ⟨i, j, rfl, rfl, h.1, c.now wd h.2 (.dat (hf _ _ _ _))⟩
        | _ => exact h.elim
    | _ => cases iy <;> exact h.elim
theorem lr_I0 {f : Int → Int → Dt} {g : Int → Int → V} (hf : ∀ K I i j, IsD K I (f i j) (g i j)) : LR2 K (rI0 g) (gI0 f) := by
  intro x y st I H ok Q v w wd ix iy h c
  cases ix with
  | own p => exact h.elim
  | dat hx =>
    cases hx with
    | int i =>
      cases iy with
      | own p => exact h.elim
      | dat hy =>
        cases hy with
        | int j => exact ⟨i, j, rfl, rfl, c.now wd h (.dat (hf _ _ _ _))⟩
        | _ => exact h.elim
    | _ => cases iy <;> exact h.elim
theorem low_and {ta tb : DE} : ∀ σ H Q, low K (dAnd ta tb) W σ H Q → tAndV (low K ta W) (low K tb W) σ H Q := by
  rintro σ H Q ⟨Δ, st, I, ok, ex, wd, sl, h, c, cx⟩
  refine low_go wd sl h (fun x st1 v I1 H1 h1 w1 s1 i1 => ?_) cx
  cases i1 with
  | own p => exact h1.elim
  | dat hd =>
    cases hd with
    | bl b =>
      refine ⟨b, rfl, ?_⟩
      cases b with
      | true => exact iteT (low_go w1 (sl.mono s1.ii) (h1.1 rfl) (c.go s1) (cx.go s1))
      | false => exact iteF ((c.go s1).now w1 (h1.2 rfl) (.dat (.bl _)))
    | _ => exact h1.elim
theorem low_not {ta : DE} : ∀ σ H Q, low K (dNot ta) W σ H Q → tNotV (low K ta W) σ H Q := by
  rintro σ H Q ⟨Δ, st, I, ok, ex, wd, sl, h, c, cx⟩
  refine low_go wd sl h (fun x st1 v I1 H1 h1 w1 s1 i1 => ?_) cx
  cases i1 with
  | own p => exact h1.elim
  | dat hd =>
    cases hd with
    | bl b => exact ⟨b, rfl, (c.go s1).now w1 h1 (.dat (.bl _))⟩
    | _ => exact h1.elim
theorem lowT_test {ta : DE} : ∀ σ H Q, lowT K (dTest ta) W σ H Q → tTest (low K ta W) σ H Q := by
  rintro σ H Q ⟨Δ, st, I, ok, ex, wd, sl, h, c, cx⟩
  refine low_go wd sl h (fun x st1 v I1 H1 h1 w1 s1 i1 => ?_) cx
  cases i1 with
  | own p => exact h1.elim
  | dat hd =>
    cases hd with
    | bl b => exact ⟨b, rfl, c b st1 I1 H1 h1 w1 s1⟩
    | _ => exact h1.elim
theorem lowT_B {ta : DE} : ∀ σ H Q, lowT K (dTest ta) W σ H Q → tB (low K ta W) σ H Q := lowT_test
theorem lowT_go {t : DT} {Δ : List Sv} {σ : St} {ok : Bool → Store → Prop} {ex : EK} {Q : Bool → Hp → Prop} (wd : Wd K st I H) (sl : Sl K Δ I σ) (h : t Δ st ok ex) (k : ContB K st I H ok Q)
    (kx : ContX K st I H ex fun cls d H' => W cls d σ H') : lowT K t W σ H Q := ⟨Δ, st, I, ok, ex, wd, sl, h, k, kx⟩
theorem lowT_and {ta tb : DT} : ∀ σ H Q, lowT K (dAndT ta tb) W σ H Q → tAnd (lowT K ta W) (lowT K tb W) σ H Q := by
  rintro σ H Q ⟨Δ, st, I, ok, ex, wd, sl, h, c, cx⟩
  refine lowT_go wd sl h (fun b st1 I1 H1 h1 w1 s1 => ?_) cx
  cases b with
  | true => exact iteT (lowT_go w1 (sl.mono s1.ii) (h1.1 rfl) (c.go s1) (cx.go s1))
  | false => exact iteF ((c.go s1) _ _ _ _ (h1.2 rfl) w1 (Stp.refl _ _ _))
theorem lowT_or {ta tb : DT} : ∀ σ H Q, lowT K (dOrT ta tb) W σ H Q → tOr (lowT K ta W) (lowT K tb W) σ H Q := by
  rintro σ H Q ⟨Δ, st, I, ok, ex, wd, sl, h, c, cx⟩
  refine lowT_go wd sl h (fun b st1 I1 H1 h1 w1 s1 => ?_) cx
  cases b with
  | true => exact iteT ((c.go s1) _ _ _ _ (h1.1 rfl) w1 (Stp.refl _ _ _))
  | false => exact iteF (lowT_go w1 (sl.mono s1.ii) (h1.2 rfl) (c.go s1) (cx.go s1))
theorem lowT_not {ta : DT} : ∀ σ H Q, lowT K (dNotT ta) W σ H Q → tNot (lowT K ta W) σ H Q := by
  rintro σ H Q ⟨Δ, st, I, ok, ex, wd, sl, h, c, cx⟩
  exact lowT_go wd sl h (fun b st1 I1 H1 h1 w1 s1 => c _ _ _ _ h1 w1 s1) cx
theorem low_if {t : DT} {ta tb : DE} : ∀ σ H Q, low K (dIf t ta tb) W σ H Q → tIf (lowT K t W) (low K ta W) (low K tb W) σ H Q := by
  rintro σ H Q ⟨Δ, st, I, ok, ex, wd, sl, h, c, cx⟩
  refine lowT_go wd sl h (fun b st1 I1 H1 h1 w1 s1 => ?_) cx
  cases b with
  | true => exact iteT (low_go w1 (sl.mono s1.ii) (h1.1 rfl) (c.go s1) (cx.go s1))
  | false => exact iteF (low_go w1 (sl.mono s1.ii) (h1.2 rfl) (c.go s1) (cx.go s1))
theorem low_chain {r r' : R2} {g g' : G2} {ta tb tc : DE} (hr : LR2 K r g) (hr' : LR2 K r' g') : ∀ σ H Q, low K (dChain g g' ta tb tc) W σ H Q → tChain r r' (low K ta W) (low K tb W) (low K tc W) σ H Q := by
  rintro σ H Q ⟨Δ, st, I, ok, ex, wd, sl, h, c, cx⟩
  refine low_go wd sl h (fun x st1 v I1 H1 h1 w1 s1 i1 => ?_) cx
  refine low_go w1 (sl.mono s1.ii) h1 (fun y st2 w I2 H2 h2 w2 s2 i2 => ?_) (cx.go s1)
  refine hr x y st2 I2 H2 _ _ v w w2 (i1.mono s2.ii) i2 h2 fun z st3 u I3 H3 h3 w3 s3 i3 => ?_
  have s13 := (s1.trans s2).trans s3
  cases i3 with
  | own p => exact h3.elim
  | dat hd =>
    cases hd with
    | bl b =>
      refine ⟨b, rfl, ?_⟩
      cases b with
      | true =>
        refine iteT (low_go w3 (sl.mono s13.ii) (h3.1 rfl) (fun z' st4 u' I4 H4 h4 w4 s4 i4 => ?_) (cx.go s13))
        exact hr' y z' st4 I4 H4 ok Q w u' w4 (i2.mono (s3.ii.trans s4.ii)) i4 h4 (c.go (s13.trans s4))
      | false => exact iteF ((c.go s13).now w3 (h3.2 rfl) (.dat (.bl _)))
    | _ => exact h3.elim
theorem lowA_nil : ∀ σ H Q, lowA K dNil W σ H Q → tNil σ H Q := by
  rintro σ H Q ⟨Δ, st, I, ok, ex, wd, sl, h, c, cx⟩
  exact c _ _ _ _ _ h wd (Stp.refl _ _ _) .nil
theorem lowA_go {t : DA} {Δ : List Sv} {σ : St} {ok : List Sv → Store → Prop} {ex : EK} {Q : List V → Hp → Prop} (wd : Wd K st I H) (sl : Sl K Δ I σ) (h : t Δ st ok ex) (k : ContA K st I H ok Q)
    (kx : ContX K st I H ex fun cls d H' => W cls d σ H') : lowA K t W σ H Q := ⟨Δ, st, I, ok, ex, wd, sl, h, k, kx⟩
theorem lowA_cons {ta : DE} {tr : DA} : ∀ σ H Q, lowA K (dCons ta tr) W σ H Q → tCons (low K ta W) (lowA K tr W) σ H Q := by
  rintro σ H Q ⟨Δ, st, I, ok, ex, wd, sl, h, c, cx⟩
  refine low_go wd sl h (fun x st1 v I1 H1 h1 w1 s1 i1 => ?_) cx
  refine lowA_go w1 (sl.mono s1.ii) h1 (fun xs st2 vs I2 H2 h2 w2 s2 i2 => ?_) (cx.go s1)
  exact c _ _ _ _ _ h2 w2 (s1.trans s2) (.cons (i1.mono s2.ii) i2)
theorem isDs_of : ∀ {xs : List Sv} {ds : List Dt} {vs : List V}, AllD xs ds → IsSs K I xs vs → IsDs K I ds vs
  | _, _, _, .nil, .nil => .nil
  | _, _, _, .cons a, .cons (.dat h) r => .cons h (isDs_of a r)
/-- a new known object -/
theorem new_known {p : Addr} {o : HO} (w : Wd K st I H) (hp : H p = none) : Wd K st (upd I p o) (upd H p o) ∧ Stp st I H st (upd I p o) (upd H p o) := by
  have ip : I p = none := w.sub.none hp
  refine ⟨⟨fun a u e => ?_, fun q ob hq => ?_, w.nd⟩, ⟨Ex.new ip, fun a u _ e => ?_, fun a e => ?_, fun q hq => .inl hq⟩⟩
  · by_cases h : a = p
    · subst h
      rw [upd_same] at e
      rw [upd_same]
      exact .inl e
    · rw [upd_ne h] at e
      rw [upd_ne h]
      exact w.sub a u e
  · obtain ⟨h1, u, h2, h3⟩ := w.own q ob hq
    have ne : q ≠ p := ne_of_none h2 hp
    exact ⟨by rw [upd_ne ne]; exact h1, u, by rw [upd_ne ne]; exact h2, h3.mono (Ex.new ip)⟩
  · rw [upd_ne (ne_of_none e hp)]
    exact e
  · by_cases h : a = p
    · subst h
      exact .inr (.inl hp)
    · rw [upd_ne h] at e
      exact .inl e
/-- a new object of one's own -/
theorem new_own {p : Addr} {o : HO} {ob : Ob} (w : Wd K st I H) (hp : H p = none) (ho : ObIs K I ob o) : p ∉ keys st ∧ Wd K ((p, ob) :: st) I (upd H p o) ∧ Stp st I H ((p, ob) :: st) I (upd H p o) := by
  have ip : I p = none := w.sub.none hp
  have np : p ∉ keys st := fun hm => by
    obtain ⟨⟨q, ob'⟩, hq, e⟩ := List.mem_map.mp hm
    obtain ⟨_, u, h2, _⟩ := w.own q ob' hq
    have e' : q = p := e
    rw [e', hp] at h2
    cases h2
  refine ⟨np, ⟨fun a u e => ?_, fun q ob' hq => ?_, List.nodup_cons.mpr ⟨np, w.nd⟩⟩, ⟨Ex.refl _, fun a u _ e => ?_, fun a e => .inl e, fun q hq => ?_⟩⟩
  · have ne : a ≠ p := ne_of_none e ip
    rw [upd_ne ne]
    exact w.sub a u e
  · rcases List.mem_cons.mp hq with e | hq
    · cases e
      exact ⟨ip, o, upd_same, ho⟩
    · obtain ⟨h1, u, h2, h3⟩ := w.own q ob' hq
      exact ⟨h1, u, by rw [upd_ne (ne_of_none h2 hp)]; exact h2, h3⟩
  · rw [upd_ne (ne_of_none e hp)]
    exact e
  · rcases List.mem_cons.mp hq with e | hq
    · have e' : q = p := e
      subst e'
      exact .inr hp
    · exact .inl hq
theorem low_tup {t : DA} : ∀ σ H Q, low K (dTup fun Δ st ok ex => t Δ st (fun xs st1 => xs.length ≤ sizeLine ∧ ok xs st1) ex) W σ H Q → tTup (lowA K t W) σ H Q := by
  rintro σ H Q ⟨Δ, st, I, ok, ex, wd, sl, h, c, cx⟩
  refine lowA_go wd sl h (fun xs st1 vs I1 H1 h1 w1 s1 i1 => ?_) cx
  obtain ⟨hl, h1⟩ := h1
  have el : xs.length = vs.length := i1.length
  refine ⟨by rw [← el]; exact hl, fun p hp => ?_⟩
  cases e : allD? xs with
  | none => simp only [e] at h1
  | some ds =>
    simp only [e] at h1
    obtain ⟨w2, s2⟩ := new_known (o := .tup vs) w1 hp
    exact c _ _ _ _ _ h1 w2 (s1.trans s2) (.dat (.tup (.inl upd_same) (IsDs.mono (Ex.new (w1.sub.none hp)) (isDs_of (allD_of e) i1))))
theorem low_lst {t : DA} : ∀ σ H Q, low K (dLst fun Δ st ok ex => t Δ st (fun xs st1 => xs.length ≤ sizeLine ∧ ok xs st1) ex) W σ H Q → tLst (lowA K t W) σ H Q := by
  rintro σ H Q ⟨Δ, st, I, ok, ex, wd, sl, h, c, cx⟩
  refine lowA_go wd sl h (fun xs st1 vs I1 H1 h1 w1 s1 i1 => ?_) cx
  obtain ⟨hl, h1⟩ := h1
  have el : xs.length = vs.length := i1.length
  refine ⟨by rw [← el]; exact hl, fun p hp => ?_⟩
  cases e : allD? xs with
  | none => simp only [e] at h1
  | some ds =>
    simp only [e] at h1
    obtain ⟨w2, s2⟩ := new_known (o := .lst vs) w1 hp
    exact c _ _ _ _ _ h1 w2 (s1.trans s2) (.dat (.lst upd_same (IsDs.mono (Ex.new (w1.sub.none hp)) (isDs_of (allD_of e) i1))))
theorem low_lstO {t : DA} : ∀ σ H Q, low K (dLstO fun Δ st ok ex => t Δ st (fun xs st1 => xs.length ≤ sizeLine ∧ ok xs st1) ex) W σ H Q → tLst (lowA K t W) σ H Q := by
  rintro σ H Q ⟨Δ, st, I, ok, ex, wd, sl, h, c, cx⟩
  refine lowA_go wd sl h (fun xs st1 vs I1 H1 h1 w1 s1 i1 => ?_) cx
  obtain ⟨hl, h1⟩ := h1
  have el : xs.length = vs.length := i1.length
  refine ⟨by rw [← el]; exact hl, fun p hp => ?_⟩
  obtain ⟨np, w2, s2⟩ := new_own (o := .lst vs) (ob := .lst xs) w1 hp (.lst i1)
  exact c _ _ _ _ _ (h1 p np) w2 (s1.trans s2) (.own p)
theorem low_call {ct : Ct} {dds : List Dt} {dvs : List V} {t : DA} (hd : ∀ I, IsSs K I (dds.map Sv.dat) dvs) : ∀ σ H Q, low K (dCall ct dds t) W σ H Q → tCallSD (lowF K ct) dvs (WE W) (lowA K t W) σ H Q := by
  rintro σ H Q ⟨Δ, st, I, ok, ex, wd, sl, h, c, cx⟩
  refine lowA_go wd sl h (fun xs st1 vs I1 H1 h1 w1 s1 i1 => ?_) cx
  exact ⟨_, st1, I1, ok, ex, w1, paired_app i1 (hd I1), h1, c.go s1, cx.go s1⟩
theorem lowS_go {t : DS} {Δ : List Sv} {σ : St} {N : DN} {D : Ends} (wd : Wd K st I H) (sl : Sl K Δ I σ) (h : t Δ st N) (e : Ends_ K st I H N W D) : lowS K t W D σ H := ⟨Δ, st, I, N, wd, sl, h, e⟩
theorem lowS_next : ∀ D σ H, lowS K dNext W D σ H → tNext D σ H := by
  rintro D σ H ⟨Δ, st, I, N, wd, sl, h, e⟩
  exact e.nx _ _ _ _ _ h wd (Stp.refl _ _ _) sl
theorem lowS_seq {t u : DS} : ∀ D σ H, lowS K (dSeq t u) W D σ H → tSeq (lowS K t W) (lowS K u W) D σ H := by
  rintro D σ H ⟨Δ, st, I, N, wd, sl, h, e⟩
  exact lowS_go (t := t) wd sl h ⟨fun Δ1 st1 σ1 I1 H1 h1 w1 s1 l1 => lowS_go w1 l1 h1 (e.go s1), e.rt, e.bk, e.ct, e.ex⟩
theorem cx_of {Δ : List Sv} {σ : St} {N : DN} {D : Ends} (sl : Sl K Δ I σ) (e : Ends_ K st I H N W D) : ContX K st I H (exAt N Δ) fun cls d H' => W cls d σ H' := fun x st' cls d I' H' h w s i => e.ex x Δ st' cls d σ I' H' h w s (sl.mono s.ii) i
theorem lowS_asg {i : Nat} {t : DE} : ∀ D σ H, lowS K (dAsg i t) W D σ H → tAsg (low K t W) (gName i) D σ H := by
  rintro D σ H ⟨Δ, st, I, N, wd, sl, h, e⟩
  exact low_go wd sl h (fun s st1 v I1 H1 h1 w1 s1 i1 => e.nx _ _ _ _ _ h1 w1 s1 ((sl.mono s1.ii).set i1)) (cx_of sl e)
theorem lowS_ret {t : DE} : ∀ D σ H, lowS K (dRet t) W D σ H → tRet (low K t W) D σ H := by
  rintro D σ H ⟨Δ, st, I, N, wd, sl, h, e⟩
  exact low_go wd sl h e.rt (cx_of sl e)
theorem lowS_drop {t : DE} : ∀ D σ H, lowS K (dDrop t) W D σ H → tDrop (low K t W) D σ H := by
  rintro D σ H ⟨Δ, st, I, N, wd, sl, h, e⟩
  exact low_go wd sl h (fun s st1 v I1 H1 h1 w1 s1 i1 => e.nx _ _ _ _ _ h1 w1 s1 (sl.mono s1.ii)) (cx_of sl e)
theorem lowS_if {c : DT} {t u : DS} : ∀ D σ H, lowS K (dIfS c t u) W D σ H → tIfS (lowT K c W) (lowS K t W) (lowS K u W) D σ H := by
  rintro D σ H ⟨Δ, st, I, N, wd, sl, h, e⟩
  refine lowT_go wd sl h (fun b st1 I1 H1 h1 w1 s1 => ?_) (cx_of sl e)
  cases b with
  | true => exact iteT (lowS_go w1 (sl.mono s1.ii) (h1.1 rfl) (e.go s1))
  | false => exact iteF (lowS_go w1 (sl.mono s1.ii) (h1.2 rfl) (e.go s1))
end
end DD
namespace DD
open PySem L2
/-- what is done with the items of a sequence x -/
def withL (x : Sv) (st : Store) (k : List Sv → Prop) : Prop := match x with
  | .dat (.lst ds) => k (ds.map .dat)
  | .dat (.fls ds) => k (ds.map .dat)
  | .own p => ∃ (j : Nat) (xs : List Sv), st[j]? = some (p, Ob.lst xs) ∧ k xs
  | _ => False
def withT (x : Sv) (k : List Sv → Prop) : Prop := match x with
  | .dat (.tup ds) => k (ds.map .dat)
  | .dat (.ktu ds) => k (ds.map .dat)
  | _ => False
def withI (x : Sv) (k : Int → Prop) : Prop := match x with
  | .dat (.int i) => k i
  | _ => False
section
variable {K : PySem.W.Frag} {W : WX} {st : Store} {I H : Hp} {x : Sv} {v : V}
theorem isSs_of : ∀ {ds : List Dt} {vs : List V}, IsDs K I ds vs → IsSs K I (ds.map .dat) vs
  | _, _, .nil => .nil
  | _, _, .cons h r => .cons (.dat h) (isSs_of r)
theorem paired_len {α β : Type} {F : α → β → Prop} : ∀ {xs : List α} {ys : List β}, Paired F xs ys → xs.length = ys.length
  | _, _, .nil => rfl
  | _, _, .cons _ t => congrArg (· + 1) (paired_len t)
theorem paired_at {α β : Type} {F : α → β → Prop} : ∀ {xs : List α} {ys : List β}, Paired F xs ys → ∀ {i : Nat} {a : α}, xs[i]? = some a → ∃ b, ys[i]? = some b ∧ F a b
  | _, _, .nil, i, a, h => by simp at h
  | _, _, .cons r t, 0, a, h => by
    simp at h
    subst h
    exact ⟨_, rfl, r⟩
  | _, _, .cons r t, i + 1, a, h => by
    obtain ⟨b, h1, h2⟩ := paired_at t (i := i) (a := a) (by simpa using h)
    exact ⟨b, by simpa using h1, h2⟩
theorem paired_back {α β : Type} {F : α → β → Prop} : ∀ {xs : List α} {ys : List β}, Paired F xs ys → ∀ {i : Nat} {b : β}, ys[i]? = some b → ∃ a, xs[i]? = some a ∧ F a b
  | _, _, .nil, i, a, h => by simp at h
  | _, _, .cons r t, 0, a, h => by
    simp at h
    subst h
    exact ⟨_, rfl, r⟩
  | _, _, .cons r t, i + 1, a, h => by
    obtain ⟨b, h1, h2⟩ := paired_back t (i := i) (b := a) (by simpa using h)
    exact ⟨b, by simpa using h1, h2⟩
theorem paired_set {α β : Type} {F : α → β → Prop} {a : α} {b : β} (r : F a b) : ∀ {xs : List α} {ys : List β}, Paired F xs ys → ∀ i, Paired F (xs.set i a) (ys.set i b)
  | _, _, .nil, _ => .nil
  | _, _, .cons _ t, 0 => .cons r t
  | _, _, .cons q t, i + 1 => .cons q (paired_set r t i)
theorem paired_take {α β : Type} {F : α → β → Prop} : ∀ {xs : List α} {ys : List β}, Paired F xs ys → ∀ n, Paired F (xs.take n) (ys.take n)
  | _, _, h, 0 => by simp only [List.take_zero]; exact .nil
  | _, _, .nil, n + 1 => .nil
  | _, _, .cons r t, n + 1 => .cons r (paired_take t n)
theorem paired_drop {α β : Type} {F : α → β → Prop} : ∀ {xs : List α} {ys : List β}, Paired F xs ys → ∀ n, Paired F (xs.drop n) (ys.drop n)
  | _, _, h, 0 => h
  | _, _, .nil, n + 1 => .nil
  | _, _, .cons r t, n + 1 => paired_drop t n
theorem atI_paired {α β : Type} {F : α → β → Prop} {xs : List α} {ys : List β} (h : Paired F xs ys) {i : Int} {a : α} (e : atI xs i = some a) : ∃ b, atI ys i = some b ∧ F a b := by
  unfold atI at e ⊢
  rw [← paired_len h]
  cases q : ixN xs.length i with
  | none =>
    rw [q] at e
    cases e
  | some j =>
    rw [q] at e
    exact paired_at h e
theorem own_at {p : Addr} {ob : Ob} (w : Wd K st I H) {j : Nat} (h : st[j]? = some (p, ob)) : ∃ o, H p = some o ∧ ObIs K I ob o := (w.own p ob (List.mem_of_getElem? h)).2
/-- a list, to be read -/
theorem withL_rd {k : List Sv → Prop} (w : Wd K st I H) (i : IsS K I x v) (h : withL x st k) : ∃ a vs xs, v = .ref a ∧ SqL K H a vs ∧ IsSs K I xs vs ∧ k xs := by
  cases i with
  | own p =>
    obtain ⟨j, xs, hj, hk⟩ := h
    obtain ⟨o, ho, io⟩ := own_at w hj
    cases io with
    | lst hs => exact ⟨p, _, xs, rfl, .inl (.inl ho), hs, hk⟩
  | dat hd =>
    cases hd with
    | lst h1 h2 => exact ⟨_, _, _, rfl, w.sub.sl (.inl (.inl h1)), isSs_of h2, h⟩
    | fls h1 h2 => exact ⟨_, _, _, rfl, w.sub.sl h1, isSs_of h2, h⟩
    | _ => exact h.elim
/-- .. that stands in the heap as it is -/
def withX (x : Sv) (st : Store) (k : List Sv → Prop) : Prop := match x with
  | .dat (.lst ds) => k (ds.map .dat)
  | .own p => ∃ (j : Nat) (xs : List Sv), st[j]? = some (p, Ob.lst xs) ∧ k xs
  | _ => False
theorem withX_rd {k : List Sv → Prop} (w : Wd K st I H) (i : IsS K I x v) (h : withX x st k) : ∃ a vs xs, v = .ref a ∧ H a = some (.lst vs) ∧ IsSs K I xs vs ∧ k xs := by
  cases i with
  | own p =>
    obtain ⟨j, xs, hj, hk⟩ := h
    obtain ⟨o, ho, io⟩ := own_at w hj
    cases io with
    | lst hs => exact ⟨p, _, xs, rfl, ho, hs, hk⟩
  | dat hd =>
    cases hd with
    | lst h1 h2 => exact ⟨_, _, _, rfl, w.sub.at h1 (by intro k z; cases z) (by intro k z; cases z), isSs_of h2, h⟩
    | _ => exact h.elim
theorem withT_rd {k : List Sv → Prop} (w : Wd K st I H) (i : IsS K I x v) (h : withT x k) : ∃ a vs xs, v = .ref a ∧ SqT K H a vs ∧ IsSs K I xs vs ∧ k xs := by
  cases i with
  | own p => exact h.elim
  | dat hd =>
    cases hd with
    | tup h1 h2 => exact ⟨_, _, _, rfl, w.sub.st h1.st, isSs_of h2, h⟩
    | ktu h1 h2 => exact ⟨_, _, _, rfl, w.sub.st h1, isSs_of h2, h⟩
    | _ => exact h.elim
theorem withI_rd {k : Int → Prop} (i : IsS K I x v) (h : withI x k) : ∃ n, v = .int n ∧ k n := by
  cases i with
  | own p => exact h.elim
  | dat hd =>
    cases hd with
    | int n => exact ⟨n, rfl, h⟩
    | _ => exact h.elim
end
/-- xs[i] -/
def gIxL : G2 := fun x y st ok => withL x st fun xs => withI y fun i => ∃ s, atI xs i = some s ∧ ok s st
def gIxT : G2 := fun x y st ok => withT x fun xs => withI y fun i => ∃ s, atI xs i = some s ∧ ok s st
/-- xs + ys, the result known -/
def gCat : G2 := fun x y st ok => withX x st fun xs => withX y st fun ys => xs.length + ys.length ≤ sizeLine ∧ ∃ ds, AllD (xs ++ ys) ds ∧ ok (.dat (.lst ds)) st
/-- a call of a built-in -/
abbrev GC := List Sv → Store → OK → Prop
def dCB (g : GC) (t : DA) : DE := fun Δ st ok ex => t Δ st (fun xs st1 => g xs st1 ok) ex
def gInt : GC := fun xs st ok => match xs with
  | [.dat (.int i)] => ok (.dat (.int i)) st
  | [.dat (.bl k)] => ok (.dat (.int (if k then 1 else 0))) st
  | _ => False
def gLenL : GC := fun xs st ok => match xs with
  | [x] => withL x st fun ys => ok (.dat (.int ys.length)) st
  | _ => False
def gLenT : GC := fun xs st ok => match xs with
  | [x] => withT x fun ys => ok (.dat (.int ys.length)) st
  | _ => False
def gMax2 : GC := fun xs st ok => match xs with
  | [.dat (.int i), .dat (.int j)] => ok (.dat (.int (if j > i then j else i))) st
  | _ => False
def gListLO : GC := fun xs st ok => match xs with
  | [x] => withL x st fun ys => ∀ p, p ∉ keys st → ok (.own p) ((p, .lst ys) :: st)
  | _ => False
/-- o[i] = v -/
def dSetL (tv to ti : DE) : DS := fun Δ st N => tv Δ st (fun v st1 => to Δ st1 (fun o st2 => ti Δ st2 (fun y st3 => match o with
  | .own p => withI y fun i => ∃ (j : Nat) (xs : List Sv) (m : Nat), st3[j]? = some (p, Ob.lst xs) ∧ ixN xs.length i = some m ∧ N.nx Δ (st3.set j (p, .lst (xs.set m v)))
  | _ => False) (exAt N Δ)) (exAt N Δ)) (exAt N Δ)
/-- xs.append(e) -/
def dApp (to te : DE) : DS := fun Δ st N => to Δ st (fun o st1 => match o with
  | .own p => (∃ (j : Nat) (xs : List Sv), st1[j]? = some (p, Ob.lst xs)) ∧ te Δ st1 (fun v st2 => ∃ (j : Nat) (xs : List Sv), st2[j]? = some (p, Ob.lst xs) ∧ xs.length < sizeLine ∧ N.nx Δ (st2.set j (p, .lst (xs ++ [v])))) (exAt N Δ)
  | _ => False) (exAt N Δ)
/-- targets -/
abbrev DG := Sv → List Sv → Store → (List Sv → Store → Prop) → Prop
def dgName (i : Nat) : DG := fun s Δ st k => k (Δ.set i s) st
def lowG (K : PySem.W.Frag) (g : DG) : TG := fun v σ H Q => ∃ s Δ st I k, Wd K st I H ∧ Sl K Δ I σ ∧ IsS K I s v ∧ g s Δ st k ∧ ContS K st I H k Q
/-- for, over a list, a tuple -/
@[irreducible] def loopD (ds : List Sv) (g : DG) (body : DS) (Δ : List Sv) (st : Store) (N : DN) : Prop := ∃ J : Nat → List Sv → Store → Prop, J 0 Δ st ∧
  (∀ i d Δ' st', ds[i]? = some d → J i Δ' st' → g d Δ' st' fun Δ2 st2 => body Δ2 st2 { N with nx := J (i + 1), ct := J (i + 1), bk := N.nx }) ∧ ∀ Δ' st', J ds.length Δ' st' → N.nx Δ' st'
theorem loopD_eq (ds : List Sv) (g : DG) (body : DS) (Δ : List Sv) (st : Store) (N : DN) : loopD ds g body Δ st N = (∃ J : Nat → List Sv → Store → Prop, J 0 Δ st ∧
  (∀ i d Δ' st', ds[i]? = some d → J i Δ' st' → g d Δ' st' fun Δ2 st2 => body Δ2 st2 { N with nx := J (i + 1), ct := J (i + 1), bk := N.nx }) ∧ ∀ Δ' st', J ds.length Δ' st' → N.nx Δ' st') := by
  unfold loopD
  rfl
section
variable {K : PySem.W.Frag} {W : WX} {st : Store} {I H : Hp}
theorem lr_ixL : LR2 K (rIxL K) gIxL := by
  intro x y st I H ok Q v w wd ix iy h c
  obtain ⟨a, vs, xs, rfl, hs, hx, h⟩ := withL_rd wd ix h
  obtain ⟨n, rfl, s, hat, h⟩ := withI_rd iy h
  obtain ⟨u, hu, iu⟩ := atI_paired hx hat
  exact ⟨a, vs, n, u, rfl, rfl, hs, hu, c.now wd h iu⟩
theorem lr_ixT : LR2 K (rIxT K) gIxT := by
  intro x y st I H ok Q v w wd ix iy h c
  obtain ⟨a, vs, xs, rfl, hs, hx, h⟩ := withT_rd wd ix h
  obtain ⟨n, rfl, s, hat, h⟩ := withI_rd iy h
  obtain ⟨u, hu, iu⟩ := atI_paired hx hat
  exact ⟨a, vs, n, u, rfl, rfl, hs, hu, c.now wd h iu⟩
theorem lr_cat : LR2 K rCat gCat := by
  intro x y st I H ok Q v w wd ix iy h c
  obtain ⟨a, vs, xs, rfl, hs, hx, h⟩ := withX_rd wd ix h
  obtain ⟨b, us, ys, rfl, ht, hy, hl, h⟩ := withX_rd wd iy h
  refine ⟨a, b, vs, us, rfl, rfl, hs, ht, by rw [← paired_len hx, ← paired_len hy]; exact hl, fun p hp => ?_⟩
  obtain ⟨ds, e, h⟩ := h
  obtain ⟨w2, s2⟩ := new_known (o := .lst (vs ++ us)) wd hp
  exact c _ _ _ _ _ h w2 s2 (.dat (.lst upd_same (IsDs.mono (Ex.new (wd.sub.none hp)) (isDs_of e (paired_app hx hy)))))
def LRC (r : List V → Hp → VK → Prop) (g : GC) : Prop := ∀ xs st I H ok Q vs, Wd K st I H → IsSs K I xs vs → g xs st ok → Cont K st I H ok Q → r vs H Q
theorem low_cb {r : List V → Hp → VK → Prop} {g : GC} {t : DA} (hr : LRC (K := K) r g) : ∀ σ H Q, low K (dCB g t) W σ H Q → tCB r (lowA K t W) σ H Q := by
  rintro σ H Q ⟨Δ, st, I, ok, ex, wd, sl, h, c, cx⟩
  exact lowA_go wd sl h (fun xs st1 vs I1 H1 h1 w1 s1 i1 => hr _ _ _ _ _ _ _ w1 i1 h1 (c.go s1)) cx
theorem one_of {xs : List Sv} {vs : List V} {x : Sv} (e : xs = [x]) (h : IsSs K I xs vs) : ∃ v, vs = [v] ∧ IsS K I x v := by
  subst e
  cases h with
  | cons a b =>
    cases b
    exact ⟨_, rfl, a⟩
theorem lc_int : LRC (K := K) (fun xs H Q => (∃ i, xs = [.int i] ∧ Q (.int i) H) ∨ ∃ k, xs = [.bl k] ∧ Q (.int (if k then 1 else 0)) H) gInt := by
  intro xs st I H ok Q vs wd ix h c
  unfold gInt at h
  split at h
  · obtain ⟨v, rfl, i⟩ := one_of rfl ix
    cases i with
    | dat hd =>
      cases hd
      exact .inl ⟨_, rfl, c.now wd h (.dat (.int _))⟩
  · obtain ⟨v, rfl, i⟩ := one_of rfl ix
    cases i with
    | dat hd =>
      cases hd
      exact .inr ⟨_, rfl, c.now wd h (.dat (.int _))⟩
  · exact h.elim
theorem lc_lenL : LRC (K := K) (fun xs H Q => ∃ p ys, xs = [.ref p] ∧ (SqL K H p ys ∨ SqT K H p ys) ∧ Q (.int ys.length) H) gLenL := by
  intro xs st I H ok Q vs wd ix h c
  unfold gLenL at h
  split at h
  · obtain ⟨v, rfl, i⟩ := one_of rfl ix
    obtain ⟨a, us, ys, rfl, hs, hx, h⟩ := withL_rd wd i h
    exact ⟨a, us, rfl, .inl hs, c.now wd h (by rw [paired_len hx]; exact .dat (.int _))⟩
  · exact h.elim
theorem lc_lenT : LRC (K := K) (fun xs H Q => ∃ p ys, xs = [.ref p] ∧ (SqL K H p ys ∨ SqT K H p ys) ∧ Q (.int ys.length) H) gLenT := by
  intro xs st I H ok Q vs wd ix h c
  unfold gLenT at h
  split at h
  · obtain ⟨v, rfl, i⟩ := one_of rfl ix
    obtain ⟨a, us, ys, rfl, hs, hx, h⟩ := withT_rd wd i h
    exact ⟨a, us, rfl, .inr hs, c.now wd h (by rw [paired_len hx]; exact .dat (.int _))⟩
  · exact h.elim
theorem two_int {xs : List Sv} {vs : List V} {i j : Int} (e : xs = [.dat (.int i), .dat (.int j)]) (h : IsSs K I xs vs) : vs = [.int i, .int j] := by
  subst e
  cases h with
  | cons a b =>
    cases b with
    | cons b c =>
      cases c
      cases a with
      | dat a =>
        cases b with
        | dat b =>
          cases a
          cases b
          rfl
theorem lc_max2 : LRC (K := K) (fun xs H Q => ∃ i j, xs = [.int i, .int j] ∧ Q (.int (if j > i then j else i)) H) gMax2 := by
  intro xs st I H ok Q vs wd ix h c
  unfold gMax2 at h
  split at h
  · exact ⟨_, _, two_int rfl ix, c.now wd h (.dat (.int _))⟩
  · exact h.elim
theorem lc_listLO : LRC (K := K) (fun xs H Q => ∃ p ys, xs = [.ref p] ∧ (SqL K H p ys ∨ SqT K H p ys) ∧ ∀ l, H l = none → Q (.ref l) (upd H l (.lst ys))) gListLO := by
  intro xs st I H ok Q vs wd ix h c
  unfold gListLO at h
  split at h
  · obtain ⟨v, rfl, i⟩ := one_of rfl ix
    obtain ⟨a, us, ys, rfl, hs, hx, h⟩ := withL_rd wd i h
    refine ⟨a, us, rfl, .inl hs, fun l hl => ?_⟩
    obtain ⟨np, w2, s2⟩ := new_own (o := .lst us) (ob := .lst ys) wd hl (.lst hx)
    exact c _ _ _ _ _ (h l np) w2 s2 (.own l)
  · exact h.elim
/-- an object of one's own is written -/
theorem keys_set {st : Store} {j : Nat} {p : Addr} {ob ob' : Ob} (h : st[j]? = some (p, ob)) : keys (st.set j (p, ob')) = keys st := by
  have hj := (List.getElem?_eq_some_iff.mp h).1
  apply List.ext_getElem?
  intro i
  rw [List.getElem?_map, List.getElem?_map]
  by_cases e : j = i
  · subst e
    rw [List.getElem?_set_self hj, h]
    rfl
  · rw [List.getElem?_set_ne e]
theorem set_own {p : Addr} {j : Nat} {ob ob' : Ob} {o' : HO} (w : Wd K st I H) (h : st[j]? = some (p, ob)) (ho : ObIs K I ob' o') :
    Wd K (st.set j (p, ob')) I (upd H p o') ∧ Stp st I H (st.set j (p, ob')) I (upd H p o') := by
  obtain ⟨ip, o, hp, _⟩ := w.own p ob (List.mem_of_getElem? h)
  have pk : p ∈ keys st := List.mem_map.mpr ⟨(p, ob), List.mem_of_getElem? h, rfl⟩
  have nd := w.nd
  refine ⟨⟨fun a u e => ?_, fun q ob2 hq => ?_, by rw [keys_set h]; exact w.nd⟩, ⟨Ex.refl _, fun a u ha e => ?_, fun a e => .inl e, fun q hq => .inl (by rw [keys_set h] at hq; exact hq)⟩⟩
  · have ne : a ≠ p := ne_of_none e ip
    rw [upd_ne ne]
    exact w.sub a u e
  · obtain ⟨i, hi⟩ := List.mem_iff_getElem?.mp hq
    have hj := (List.getElem?_eq_some_iff.mp h).1
    by_cases e : j = i
    · subst e
      rw [List.getElem?_set_self hj] at hi
      cases hi
      exact ⟨ip, o', upd_same, ho⟩
    · rw [List.getElem?_set_ne e] at hi
      have qm := List.mem_of_getElem? hi
      obtain ⟨h1, u, h2, h3⟩ := w.own q ob2 qm
      have ne : q ≠ p := fun z => by
        subst z
        have k1 : (keys st)[i]? = some q := by rw [List.getElem?_map, hi]; rfl
        have k2 : (keys st)[j]? = some q := by rw [List.getElem?_map, h]; rfl
        exact e ((List.getElem?_inj (List.getElem?_eq_some_iff.mp k2).1 nd).mp (k2.trans k1.symm))
      exact ⟨h1, u, by rw [upd_ne ne]; exact h2, h3⟩
  · rw [upd_ne (fun z => ha (by rw [z]; exact pk))]
    exact e
theorem lowS_setL {tv to ti : DE} : ∀ D σ H, lowS K (dSetL tv to ti) W D σ H → tAsg (low K tv W) (gSub (low K to W) (low K ti W) rSetL) D σ H := by
  rintro D σ H ⟨Δ, st, I, N, wd, sl, h, e⟩
  refine low_go wd sl h (fun v st1 vv I1 H1 h1 w1 s1 i1 => ?_) (cx_of sl e)
  refine low_go w1 (sl.mono s1.ii) h1 (fun o st2 ov I2 H2 h2 w2 s2 i2 => ?_) (cx_of (sl.mono s1.ii) (e.go s1))
  have s12 := s1.trans s2
  refine low_go w2 (sl.mono s12.ii) h2 (fun y st3 yv I3 H3 h3 w3 s3 i3 => ?_) (cx_of (sl.mono s12.ii) (e.go s12))
  have s13 := s12.trans s3
  cases i2 with
  | dat hd => exact h3.elim
  | own p =>
    obtain ⟨n, rfl, j, xs, m, hj, hm, hn⟩ := withI_rd i3 h3
    obtain ⟨u, hu, io⟩ := own_at w3 hj
    cases io with
    | @lst _ us hs =>
      obtain ⟨w4, s4⟩ := set_own (o' := .lst (us.set m vv)) w3 hj (.lst (paired_set (i1.mono (s2.ii.trans s3.ii)) hs m))
      exact ⟨p, us, n, m, rfl, rfl, hu, by rw [← paired_len hs]; exact hm, e.nx _ _ _ _ _ hn w4 (s13.trans s4) (sl.mono s13.ii)⟩
theorem lowS_app {to te : DE} : ∀ D σ H, lowS K (dApp to te) W D σ H → tDrop (tBM K "list" rAppend (low K to W) (tCons (low K te W) tNil)) D σ H := by
  rintro D σ H ⟨Δ, st, I, N, wd, sl, h, e⟩
  refine low_go wd sl h (fun o st1 ov I1 H1 h1 w1 s1 i1 => ?_) (cx_of sl e)
  cases i1 with
  | dat hd => exact h1.elim
  | own p =>
    obtain ⟨⟨j, xs, hj⟩, h1⟩ := h1
    obtain ⟨u, hu, io⟩ := own_at w1 hj
    cases io with
    | @lst _ us hs =>
      refine ⟨.inl ⟨rfl, us, .inl (.inl hu)⟩, low_go w1 (sl.mono s1.ii) h1 (fun v st2 vv I2 H2 h2 w2 s2 i2 => ?_) (cx_of (sl.mono s1.ii) (e.go s1))⟩
      obtain ⟨j2, xs2, hj2, hl, hn⟩ := h2
      obtain ⟨u2, hu2, io2⟩ := own_at w2 hj2
      cases io2 with
      | @lst _ us2 hs2 =>
        obtain ⟨w3, s3⟩ := set_own (o' := .lst (us2 ++ [vv])) w2 hj2 (.lst (paired_app hs2 (.cons i2 .nil)))
        exact ⟨p, us2, vv, rfl, rfl, hu2, by rw [← paired_len hs2]; exact hl, e.nx _ _ _ _ _ hn w3 ((s1.trans s2).trans s3) (sl.mono (s1.trans s2).ii)⟩
/-- targets -/
theorem lowG_name {i : Nat} : ∀ v σ H Q, lowG K (dgName i) v σ H Q → gName i v σ H Q := by
  rintro v σ H Q ⟨s, Δ, st, I, k, wd, sl, iv, h, c⟩
  exact c _ _ _ _ _ h wd (Stp.refl _ _ _) (sl.set iv)
/-- loops -/
theorem loop_turn {g : DG} {body : DS} {N : DN} {D : Ends} {J : Nat → List Sv → Store → Prop} {i : Nat} {d : Sv} {v : V} {Δ' : List Sv} {st' : Store} {σ' : St} {I' H' : Hp}
    (e : Ends_ K st I H N W D) (w : Wd K st' I' H') (l : Sl K Δ' I' σ') (s : Stp st I H st' I' H') (iv : IsS K I' d v)
    (h : g d Δ' st' fun Δ2 st2 => body Δ2 st2 { N with nx := J (i + 1), ct := J (i + 1), bk := N.nx }) :
    lowG K g v σ' H' fun σ2 H2 => lowS K body W { D with nx := fun σ3 H3 => ∃ Δ3 st3 I3, J (i + 1) Δ3 st3 ∧ Wd K st3 I3 H3 ∧ Sl K Δ3 I3 σ3 ∧ Stp st I H st3 I3 H3, ct := fun σ3 H3 => ∃ Δ3 st3 I3, J (i + 1) Δ3 st3 ∧ Wd K st3 I3 H3 ∧ Sl K Δ3 I3 σ3 ∧ Stp st I H st3 I3 H3, bk := D.nx } σ2 H2 := by
  refine ⟨d, Δ', st', I', _, w, l, iv, h, fun Δ2 st2 σ2 I2 H2 h2 w2 s2 l2 => ?_⟩
  have ss := s.trans s2
  refine lowS_go w2 l2 h2 ⟨fun Δ3 st3 σ3 I3 H3 h3 w3 s3 l3 => ⟨Δ3, st3, I3, h3, w3, l3, ss.trans s3⟩, (e.go ss).rt, (e.go ss).nx, fun Δ3 st3 σ3 I3 H3 h3 w3 s3 l3 => ⟨Δ3, st3, I3, h3, w3, l3, ss.trans s3⟩, (e.go ss).ex⟩
end
end DD
namespace DD
open PySem PySem.Spec PyProof.Rows L2
section
variable {X : Cx} {W : WX} {a b c e : Expr} {es : List Expr} {ta tb tc te : DE} {pos p : Pos}
abbrev PEd (X : Cx) (W : WX) (e : Expr) (t : DE) : Prop := PE X e (low X.K t W)
abbrev PTd (X : Cx) (W : WX) (e : Expr) (t : DT) : Prop := PT X e (lowT X.K t W)
abbrev PAd (X : Cx) (W : WX) (es : List Expr) (t : DA) : Prop := PA X es (lowA X.K t W)
abbrev PSd (X : Cx) (W : WX) (s : Stmt) (t : DS) : Prop := PS X s (lowS X.K t W)
abbrev PBd (X : Cx) (W : WX) (s : List Stmt) (t : DS) : Prop := PSs X s (lowS X.K t W)
abbrev PGd (X : Cx) (e : Expr) (g : DG) : Prop := PG X e (lowG X.K g)
theorem dv (i : Nat) {x : Str} (hN : X.N[i]? = some x := by rfl) (hv : Vis X.env.scope x := by first | exact Or.inl rfl | exact Or.inr (Or.inl rfl) | exact Or.inr (Or.inr rfl)) (hd : (x == ("__debug__" : Str)) = false := by decide)
    (hcd : (x == ("__classdict__" : Str)) = false := by decide) : PEd X W (.Name x pos) (dVar i) := PE.imp (pe_var hN hv hd hcd) low_var
theorem di {i j} : PEd X W (.Constant (.int i) j pos) (dC (.int i)) := PE.imp pe_int (low_c fun _ => .int i)
theorem ds {i j} : PEd X W (.Constant (.str i) j pos) (dC (.str i)) := PE.imp pe_str (low_c fun _ => .str i)
theorem db {i j} : PEd X W (.Constant (.bool i) j pos) (dC (.bl i)) := PE.imp pe_bl (low_c fun _ => .bl i)
theorem dn {j} : PEd X W (.Constant .none j pos) (dC .non) := PE.imp pe_non (low_c fun _ => .non)
/-- an int that the module holds -/
theorem dgl {x : Str} {i : Int} {u : Value} (hm : X.mg x = some u) (r : RelV (.int i) u) (hg : Gl X x := by rfl) (hd : (x == ("__debug__" : Str)) = false := by decide) : PEd X W (.Name x pos) (dC (.int i)) := PE.imp (pe_glob hg hm r hd) (low_c fun _ => .int i)
theorem dop {op : Operator} {r : R2} {g : G2} (ho : OpR X (binaryOp op) r) (hr : LR2 X.K r g) (ha : PEd X W a ta) (hb : PEd X W b tb) : PEd X W (.BinOp a op b pos) (dOp g ta tb) := PE.imp (pe_op ho ha hb) (low_op hr)
theorem dcmp {op : CmpOp} {r : R2} {g : G2} (ho : OpR X (compareOp op) r) (hr : LR2 X.K r g) (ha : PEd X W a ta) (hb : PEd X W b tb) (hm : behindInMarks op b = false) : PEd X W (.Compare a [op] [b] pos) (dOp g ta tb) := PE.imp (pe_cmpR ho ha hb hm) (low_op hr)
theorem tcmp {op : CmpOp} {r : R2} {g : G2} (ho : OpR X (compareOp op) r) (hr : LR2 X.K r g) (ha : PEd X W a ta) (hb : PEd X W b tb) (hm : behindInMarks op b = false) : PTd X W (.Compare a [op] [b] pos) (dTest (dOp g ta tb)) :=
  PT.imp (pt_cmpR ho ha hb hm) fun σ H Q h => by
    obtain ⟨Δ, st, I, ok, ex, wd, sl, h, c, cx⟩ := h
    refine low_op hr _ _ _ ⟨Δ, st, I, _, ex, wd, sl, h, fun s st' v I' H' h' w' s' i' => ?_, cx⟩
    cases i' with
    | own p => exact h'.elim
    | dat hd =>
      cases hd with
      | bl k => exact ⟨k, rfl, c _ _ _ _ h' w' s'⟩
      | _ => exact h'.elim
theorem dchain {op op' : CmpOp} {r r' : R2} {g g' : G2} (ho : OpR X (compareOp op) r) (ho' : OpR X (compareOp op') r') (hr : LR2 X.K r g) (hr' : LR2 X.K r' g') (ha : PEd X W a ta) (hb : PEd X W b tb) (hc : PEd X W c tc)
    (hm : lastMarks [op, op'] [b, c] = false := by with_unfolding_all rfl) : PEd X W (.Compare a [op, op'] [b, c] pos) (dChain g g' ta tb tc) := PE.imp (pe_chain ho ho' ha hb hc hm) (low_chain hr hr')
abbrev gAdd : G2 := gI0 fun i j => .int (i + j)
abbrev gSub' : G2 := gI0 fun i j => .int (i - j)
abbrev gMul : G2 := gI CMul fun i j => .int (i * j)
abbrev gDiv : G2 := gI CDiv fun i j => .int (i / j)
abbrev gMod : G2 := gI (fun _ j => 0 < j) fun i j => .int (i % j)
abbrev gLt : G2 := gI0 fun i j => .bl (decide (i < j))
abbrev gLe : G2 := gI0 fun i j => .bl (decide (i ≤ j))
abbrev gGt : G2 := gI0 fun i j => .bl (decide (j < i))
theorem lr_add {K} : LR2 K (rI0 fun i j => .int (i + j)) gAdd := lr_I0 fun _ _ _ _ => .int _
theorem lr_sub {K} : LR2 K (rI0 fun i j => .int (i - j)) gSub' := lr_I0 fun _ _ _ _ => .int _
theorem lr_mul {K} : LR2 K (rI CMul fun i j => .int (i * j)) gMul := lr_I fun _ _ _ _ => .int _
theorem lr_div {K} : LR2 K (rI CDiv fun i j => .int (i / j)) gDiv := lr_I fun _ _ _ _ => .int _
theorem lr_mod {K} : LR2 K (rI (fun _ j => 0 < j) fun i j => .int (i % j)) gMod := lr_I fun _ _ _ _ => .int _
theorem lr_lt {K} : LR2 K (rI0 fun i j => .bl (decide (i < j))) gLt := lr_I0 fun _ _ _ _ => .bl _
theorem lr_le {K} : LR2 K (rI0 fun i j => .bl (decide (i ≤ j))) gLe := lr_I0 fun _ _ _ _ => .bl _
theorem lr_gt {K} : LR2 K (rI0 fun i j => .bl (decide (j < i))) gGt := lr_I0 fun _ _ _ _ => .bl _
theorem dix {r : R2} {g : G2} (hr : IxR X r) (hg : LR2 X.K r g) (ha : PEd X W a ta) (hb : PEd X W b tb) (hs : PlainIx b := by exact fun _ _ => rfl) : PEd X W (.Subscript a b pos) (dOp g ta tb) := PE.imp (pe_ix hr ha hb hs) (low_op hg)
theorem dcb {id : String} {x : Str} {r : List V → Hp → VK → Prop} {g : GC} {t : DA} (hc : CallR X (.builtin id) r) (hr : LRC (K := X.K) r g) (hm : X.mg x = none) (hv : bootBuiltins x = some (.builtin id)) (ha : PAd X W (e :: es) t) (hg : Gl X x := by rfl) (hn : x ≠ "__name__" := by decide) (hdb : (x == ("__debug__" : Str)) = false := by decide)
    (he : starEach (e :: es) X.env = (false, eval e X.env) :: starEach es X.env := by rfl) (hpl : (backTo pos (starEach es X.env)).any (·.1) = false := by rfl) : PEd X W (.Call (.Name x p) (e :: es) [] pos) (dCB g t) := PE.imp (pe_callB hc hg hm hv ha hn hdb he hpl) (low_cb hr)
theorem dct {T : String} {x : Str} {r : List V → Hp → VK → Prop} {g : GC} {t : DA} (hc : CallR X (.type T) r) (hr : LRC (K := X.K) r g) (hm : X.mg x = none) (hv : bootBuiltins x = some (.type T)) (ha : PAd X W (e :: es) t) (hg : Gl X x := by rfl) (hn : x ≠ "__name__" := by decide) (hdb : (x == ("__debug__" : Str)) = false := by decide)
    (he : starEach (e :: es) X.env = (false, eval e X.env) :: starEach es X.env := by rfl) (hpl : (backTo pos (starEach es X.env)).any (·.1) = false := by rfl) : PEd X W (.Call (.Name x p) (e :: es) [] pos) (dCB g t) := PE.imp (pe_callTy hc hg hm hv ha hn hdb he hpl) (low_cb hr)
theorem anil : PAd X W [] dNil := PA.imp pa_nil lowA_nil
theorem acons {t : DA} (he : PEd X W e te) (ha : PAd X W es t) (hs : starEach (e :: es) X.env = (false, eval e X.env) :: starEach es X.env := by rfl) : PAd X W (e :: es) (dCons te t) := PA.imp (pa_cons he ha hs) lowA_cons
/-- the size of a display -/
def szd (t : DA) : DA := fun Δ st ok ex => t Δ st (fun xs st1 => xs.length ≤ sizeLine ∧ ok xs st1) ex
theorem dtup {x1} {t : DA} (h : PAd X W es t) : PEd X W (.Tuple es x1 pos) (dTup (szd t)) := PE.imp (pe_tup h) low_tup
theorem dlst {t : DA} (h : PAd X W es t) : PEd X W (.List es pos) (dLst (szd t)) := PE.imp (pe_lst h) low_lst
theorem dlstO {t : DA} (h : PAd X W es t) : PEd X W (.List es pos) (dLstO (szd t)) := PE.imp (pe_lst h) low_lstO
/-- f(..) -/
theorem dcall {ct : Ct} {k : Nat} {f : Addr} {fd : FuncData} {ps : List Str} {x : Str} {dds : List Dt} {dvs : List V} {dus : List Value} {t : DA} (F : FnOk X.prog X.w X.K X.mg X.base (L2.CX X.prog X.w) k f fd ps (lowF X.K ct)) (hr : Room k X.A) (hm : X.mg x = some (.ref f)) (hk : PySem.W.keepIn X.K (.ref f) = true)
    (hb : Binds X.K fd ps dus) (hd : Vals dvs dus) (hdd : ∀ I, IsSs X.K I (dds.map Sv.dat) dvs) (tk : Takes X W) (ha : PAd X W (e :: es) t) (hg : Gl X x := by rfl) (hdb : (x == ("__debug__" : Str)) = false := by decide)
    (he : starEach (e :: es) X.env = (false, eval e X.env) :: starEach es X.env := by rfl) (hpl : (backTo pos (starEach es X.env)).any (·.1) = false := by rfl) : PEd X W (.Call (.Name x p) (e :: es) [] pos) (dCall ct dds t) :=
  PE.imp (pe_callSD F hr hg hm hk hb hd (fun σ => passAt tk σ) ha hdb he hpl) (low_call hdd)
variable {s : Stmt} {ss : List Stmt} {t u : DS}
theorem bnil : PBd X W [] dNext := PSs.imp pss_nil lowS_next
theorem bcons (h1 : PSd X W s t) (h2 : PBd X W ss u) : PBd X W (s :: ss) (dSeq t u) := PSs.imp (pss_cons h1 h2) lowS_seq
theorem bone (h1 : PSd X W s t) : PBd X W [s] t := pss_one h1
theorem sset (i : Nat) {x : Str} {pos' : Pos} (hN : X.N.Nodup) (he : PEd X W e te) (hi : X.N[i]? = some x := by rfl) (hx : Loc X.env.scope x := by first | exact Or.inl rfl | exact Or.inr rfl) (hs : swapsWith e (some (.Name x pos')) pos.line X.env = pure false := by rfl)
    (hf : X.fn x = true ∨ X.env.scope.names.lookup x = some .local := by first | exact .inl rfl | exact .inr rfl | assumption) : PSd X W (.Assign [.Name x pos'] e pos) (dAsg i te) := PS.imp (ps_set hN hi hx he hs hf) lowS_asg
theorem sret (he : PEd X W e te) : PSd X W (.Return (some e) pos) (dRet te) := PS.imp (ps_ret he) lowS_ret
theorem sif {tt : DT} (hc : PTd X W c tt) (h1 : PBd X W ss t) {ss' : List Stmt} (h2 : PBd X W ss' u) : PSd X W (.If c ss ss' pos) (dIfS tt t u) := PS.imp (ps_if hc h1 h2) lowS_if
theorem ssetL {o i : Expr} {tv to ti : DE} {p2 : Pos} (hv : PEd X W e tv) (ho : PEd X W o to) (hi : PEd X W i ti)
    (ha : ∀ v, assign (.Subscript o i p2) X.env v = (do
      let ov ← holding [v] (eval o X.env)
      let iv ← holding [v, ov] (eval i X.env)
      standAt p2
      holding [v, ov, iv] (setItem ov iv v)
      release [v, ov, iv] []) := by intro _; rfl)
    (hs : swapsWithSole [.Subscript o i p2] e pos.line X.env = pure false := by rfl) (hw : swappedStores [.Subscript o i p2] e X.env = pure none := by rfl)
    (h1 : (assignEach [.Subscript o i p2] X.env).map (·.2) = [assign (.Subscript o i p2) X.env] := by rfl) : PSd X W (.Assign [.Subscript o i p2] e pos) (dSetL tv to ti) :=
  PS.imp (ps_asg hv (pg_sub ho hi set_list ha) hs hw h1) lowS_setL
theorem gname (i : Nat) {x : Str} (hN : X.N.Nodup) (hi : X.N[i]? = some x := by rfl) (hx : Loc X.env.scope x := by first | exact Or.inl rfl | exact Or.inr rfl) (hf : X.fn x = true ∨ X.env.scope.names.lookup x = some .local := by first | exact .inl rfl | exact .inr rfl | assumption) : PGd X (.Name x pos) (dgName i) :=
  ⟨fun pins s σ H v u Q I r h => (pg_name hN hi hx hf).run pins s σ H v u Q I r (lowG_name _ _ _ _ h)⟩
end
inductive AllK {κ : Type} : List (κ × Sv) → List (κ × Dt) → Prop
  | nil : AllK [] []
  | cons {k : κ} {d : Dt} {xs : List (κ × Sv)} {ds : List (κ × Dt)} : AllK xs ds → AllK ((k, .dat d) :: xs) ((k, d) :: ds)
theorem isDk_of {K : PySem.W.Frag} {I : Hp} : ∀ {xs : List (Key × Sv)} {ds : List (Key × Dt)} {vs : List (Key × V)}, AllK xs ds → Paired (RK K I) xs vs → IsDk K I ds vs
  | _, _, _, .nil, .nil => .nil
  | _, _, (_, _) :: _, .cons a, .cons ⟨e, .dat h⟩ r => by
    cases e
    exact .cons h (isDk_of a r)
theorem isDt_of {K : PySem.W.Frag} {I : Hp} : ∀ {xs : List (List Key × Sv)} {ds : List (List Key × Dt)} {vs : List (List Key × V)}, AllK xs ds → Paired (RK K I) xs vs → IsDt K I ds vs
  | _, _, _, .nil, .nil => .nil
  | _, _, (_, _) :: _, .cons a, .cons ⟨e, .dat h⟩ r => by
    cases e
    exact .cons h (isDt_of a r)
theorem AllK.map {κ α : Type} {f : α → κ} {g : α → Dt} : ∀ xs : List α, AllK (xs.map fun x => (f x, .dat (g x))) (xs.map fun x => (f x, g x))
  | [] => .nil
  | _ :: xs => .cons (AllK.map xs)
inductive ObD : Ob → Dt → Prop
  | lst {xs : List Sv} {ds : List Dt} : AllD xs ds → ObD (.lst xs) (.lst ds)
  | dic {xs : List (Key × Sv)} {ds : List (Key × Dt)} : AllK xs ds → ObD (.dic xs) (.dic ds)
  | dtt {xs : List (List Key × Sv)} {ds : List (List Key × Dt)} : AllK xs ds → ObD (.dtt xs) (.dtt ds)
inductive Fin : Sv → Store → Sv → Store → Prop
  | keep {s : Sv} {st st' : Store} : st'.Sublist st → Fin s st s st'
  | pub {p : Addr} {ob : Ob} {d : Dt} {st st' : Store} {j : Nat} : st[j]? = some (p, ob) → ObD ob d → p ∉ keys st' → st'.Sublist st → Fin (.own p) st (.dat d) st'
def endsOf (ok : OK) (ex : EK) : DN where
  nx := fun _ st' => ∃ st'', st''.Sublist st' ∧ ok (.dat .non) st''
  rt := fun s st' => ∃ s' st'', Fin s st' s' st'' ∧ ok s' st''
  bk := fun _ _ => False
  ct := fun _ _ => False
  ex := fun x _ st' => ∃ st'', st''.Sublist st' ∧ ex x st''
section
variable {K : PySem.W.Frag} {st st' : Store} {I I' H H' : Hp}
theorem keys_sub (h : st'.Sublist st) : (keys st').Sublist (keys st) := h.map _
theorem wd_drop (w : Wd K st I H) (h : st'.Sublist st) : Wd K st' I H := ⟨w.sub, fun p ob hp => w.own p ob (h.subset hp), w.nd.sublist (keys_sub h)⟩
theorem stp_drop {st0 : Store} {I0 H0 : Hp} (s : Stp st0 I0 H0 st I H) (h : st'.Sublist st) : Stp st0 I0 H0 st' I H := ⟨s.ii, s.hh, s.nw, fun p hp => s.ks p ((keys_sub h).subset hp)⟩
theorem fin_ok {st0 : Store} {I0 H0 : Hp} {s s' : Sv} {v : V} (w : Wd K st I H) (sp : Stp st0 I0 H0 st I H) (i : IsS K I s v) (f : Fin s st s' st') : ∃ I', Wd K st' I' H ∧ Stp st0 I0 H0 st' I' H ∧ IsS K I' s' v := by
  cases f with
  | keep h => exact ⟨I, wd_drop w h, stp_drop sp h, i⟩
  | @pub p ob d _ _ j hj od np h =>
    cases i
    have hm := List.mem_of_getElem? hj
    obtain ⟨ip, o, hp, io⟩ := w.own p ob hm
    have pk : p ∈ keys st := List.mem_map.mpr ⟨_, hm, rfl⟩
    refine ⟨upd I p o, ⟨fun a u e => ?_, fun q ob2 hq => ?_, w.nd.sublist (keys_sub h)⟩, ⟨sp.ii.trans (Ex.new ip), sp.hh, fun a ha => ?_, fun q hq => sp.ks q ((keys_sub h).subset hq)⟩, ?_⟩
    · by_cases e1 : a = p
      · subst e1
        rw [upd_same] at e
        cases e
        exact .inl hp
      · rw [upd_ne e1] at e
        exact w.sub a u e
    · obtain ⟨h1, u, h2, h3⟩ := w.own q ob2 (h.subset hq)
      have ne : q ≠ p := fun z => np (z ▸ List.mem_map.mpr ⟨(q, ob2), hq, rfl⟩)
      exact ⟨by rw [upd_ne ne]; exact h1, u, h2, h3.mono (Ex.new ip)⟩
    · by_cases e1 : a = p
      · subst e1
        rcases sp.ks a pk with q | q
        · exact .inr (.inr (.inl q))
        · exact .inr (.inl q)
      · rw [upd_ne e1] at ha
        exact sp.nw a ha
    · cases od with
      | lst ad =>
        cases io with
        | lst hs => exact .dat (.lst upd_same ((isDs_of ad hs).mono (Ex.new ip)))
      | dic ad =>
        cases io with
        | dic hs => exact .dat (.dic (.inl upd_same) ((isDk_of ad hs).mono (Ex.new ip)))
      | dtt ad =>
        cases io with
        | dtt hs => exact .dat (.dtt (.inl upd_same) ((isDt_of ad hs).mono (Ex.new ip)))
end
theorem sl_start {K : PySem.W.Frag} {I : Hp} {N : List Str} {ss : List Sv} {vs : List V} (h : IsSs K I ss vs) : Sl K (ss ++ List.replicate (N.length - ss.length) .un) I (L2.start N vs) := by
  have e := paired_len h
  unfold L2.start
  rw [← e]
  refine ⟨by simp [e], fun i s hs => ?_⟩
  by_cases hi : i < ss.length
  · rw [List.getElem?_append_left hi] at hs
    obtain ⟨v, hv, iv⟩ := paired_at h hs
    refine .inr ⟨v, ?_, iv⟩
    rw [List.getElem?_append_left (by rw [List.length_map, ← e]; exact hi), List.getElem?_map, hv]
    rfl
  · rw [List.getElem?_append_right (by omega)] at hs
    have := List.mem_of_getElem? hs
    exact .inl (List.mem_replicate.mp this).2
section
variable {P : Program} {w : World} {K : PySem.W.Frag} {mg : Str → Option Value} {base : Heap}
/-- what is wanted of an exception within a def -/
abbrev WF (E : XK) : WX := fun cls d _ H => E cls d H
abbrev cxD (P : Program) (w : World) (K : PySem.W.Frag) (mg : Str → Option Value) (base : Heap) (N : List Str) (qual : Str) (scope : Scope) (f : Addr) (cdv : Value) (A : Around) (outer : List Env) (s : Shared) (H : Hp) (E : XK) : Cx := cxOf (L2.CX P w) P w K mg base N qual scope f cdv A outer s H E
theorem fn_low {x qual : Str} {st : Stmt} {f : Addr} {fd : FuncData} {N ps : List Str} {k : Nat} {ct : Ct} (t : DS) (F : Fun K x qual st f fd) (S : FnScope N ps (defScope st)) (len : ∀ ss st ok ex, ct ss st ok ex → ss.length = ps.length)
    (hsem : ∀ ss st ok ex, ct ss st ok ex → t (ss ++ List.replicate (N.length - ss.length) .un) st (endsOf ok ex))
    (hbody : ∀ (cdv : Value) (A : Around) (outer : List Env) (s : Shared) (H : Hp) (E : XK), Room k (A.deeper (envOfC qual (defScope st) s.heap.objs.size f cdv)) → Takes (cxD P w K mg base N qual (defScope st) f cdv A outer s H E) (WF E) →
      PassesOwn (model P w) (cxD P w K mg base N qual (defScope st) f cdv A outer s H E).A (cxD P w K mg base N qual (defScope st) f cdv A outer s H E).env (cxD P w K mg base N qual (defScope st) f cdv A outer s H E).xe →
      PBd (cxD P w K mg base N qual (defScope st) f cdv A outer s H E) (WF E) (defBody st) t) :
    FnOk P w K mg base (L2.CX P w) (k + 1) f fd ps (lowF K ct) := by
  refine F.okX S (fun vs H Q E h => ?_) (fun cdv A outer s H vs Q E hr h => ?_)
  · obtain ⟨ss, st, I, ok, ex, wd, iv, h, _⟩ := h
    rw [← paired_len iv]
    exact len _ _ _ _ h
  · obtain ⟨ss, st0, I, ok, ex, wd, iv, h, c, cx⟩ := h
    refine ⟨_, hbody cdv A outer s H E hr (takes_of rfl rfl rfl rfl) (passes_of rfl), ?_⟩
    refine lowS_go wd (sl_start iv) (hsem _ _ _ _ h) ⟨?_, ?_, ?_, ?_, ?_⟩
    · rintro Δ st' σ' I' H' ⟨st'', hs, h'⟩ w' s' l'
      exact c _ _ _ _ _ h' (wd_drop w' hs) (stp_drop s' hs) (.dat .non)
    · rintro s st' v I' H' ⟨s', st'', hf, h'⟩ w' sp i'
      obtain ⟨I2, w2, s2, i2⟩ := fin_ok w' sp i' hf
      exact c _ _ _ _ _ h' w2 s2 i2
    · intro _ _ _ _ _ h'
      exact h'.elim
    · intro _ _ _ _ _ h'
      exact h'.elim
    · rintro x Δ' st' cls d σ' I' H' ⟨st'', hs, h'⟩ w' sp l' xi
      exact cx x st'' cls d I' H' h' (wd_drop w' hs) (stp_drop sp hs) xi
end
end DD
namespace DD
open PySem PySem.Spec PyProof.Rows L2
inductive Kd where
  | non | bl | int | str | lst | tup | dic
def Kd.nm : Kd → String
  | .non => "NoneType" | .bl => "bool" | .int => "int" | .str => "str" | .lst => "list" | .tup => "tuple" | .dic => "dict"
/-- a value of the first kind is one of the second -/
def Kd.isK : Kd → Kd → Bool
  | .non, .non => true | .bl, .bl => true | .int, .int => true | .str, .str => true | .lst, .lst => true | .tup, .tup => true | .dic, .dic => true
  | .bl, .int => true
  | _, _ => false
theorem kd_ok : ∀ a b : Kd, kitB a.nm b.nm = some (a.isK b) := by
  intro a b
  cases a <;> cases b <;> decide +kernel
def kdD : Dt → Option Kd
  | .non => some .non | .bl _ => some .bl | .int _ => some .int | .str _ => some .str | .lst _ => some .lst | .fls _ => some .lst | .tup _ => some .tup | .ktu _ => none | .dic _ => some .dic | _ => none
/-- what isinstance asks of a class of one's own -/
structure InsC (K : PySem.W.Frag) (C : Addr) : Prop where
  cl : Cls K C
  ha : PySem.W.findIn K (.ref C) "__class__" = some (some (.builtin "object.__class__"))
  hn : PySem.W.specialIn K (.builtin "object.__class__") "__get__" = some (some (.builtin "getset_descriptor.__get__"))
  ht : PySem.W.takesIn K (.builtin "object.__class__") = some true
  hm : PySem.W.mroIn K C (.type "object") = some true
/-- isinstance(x, a built-in class) -/
def dIsi (K : PySem.W.Frag) (k : Kd) (te : DE) : DE := fun Δ st ok ex => te Δ st (fun s st1 => match s with
  | .dat (.ins C _) => InsC K C ∧ PySem.W.kitOne K (.ref C) (.type k.nm) = some false ∧ ok (.dat (.bl false)) st1
  | .dat d => match kdD d with
    | some j => ok (.dat (.bl (j.isK k))) st1
    | none => False
  | _ => False) ex
section
variable {K : PySem.W.Frag} {W : WX} {st : Store} {I H : Hp}
theorem ty_of {d : Dt} {v : V} {k : Kd} (w : Wd K st I H) (h : IsD K I d v) (e : kdD d = some k) : TyX K H v (.type k.nm) := by
  cases h <;> try cases e
  · exact .base .non
  · exact .base (.bl _)
  · exact .base (.int _)
  · exact .base (.str _)
  · rename_i h1 h2
    rcases w.sub.st h1.st with (h | ⟨o, h⟩) | ⟨o, its, n, h, c, _⟩
    · exact .base (.tup h)
    · exact .fTuple h
    · exact .kTuple h c
  · exact .base (.lst (w.sub.at ‹_› (by intro k z; cases z) (by intro k z; cases z)))
  · rename_i h1 h2
    rcases w.sub.sl h1 with (h | ⟨o, h⟩) | ⟨o, its, n, h, c, _⟩
    · exact .base (.lst h)
    · exact .base (.frz h)
    · exact .kList h c
  · rename_i h1 h2
    rcases w.sub.rd h1 with h | ⟨o, h⟩
    · exact .base (.dK h)
    · exact .fDict h
theorem ty_ins {C : Addr} {fs : List (Str × Dt)} {v : V} (w : Wd K st I H) (h : IsD K I (.ins C fs) v) (c : InsC K C) : TyX K H v (.ref C) := by
  cases h with
  | ins h1 h2 => exact .base (.ins (w.sub.at h1 (by intro k z; cases z) (by intro k z; cases z)) c.cl c.ha c.hn c.ht c.hm)
theorem low_isi {k : Kd} {te : DE} : ∀ σ H Q, low K (dIsi K k te) W σ H Q → tCB (rIsi K) (tCons (low K te W) (tCons (tC (.ty k.nm)) tNil)) σ H Q := by
  rintro σ H Q ⟨Δ, st, I, ok, ex, wd, sl, h, c, cx⟩
  refine low_go wd sl h (fun x st1 v I1 H1 h1 w1 s1 i1 => ?_) cx
  cases i1 with
  | own p => exact h1.elim
  | @dat d _ hd =>
    by_cases hi : ∃ C fs, d = .ins C fs
    · obtain ⟨C, fs, rfl⟩ := hi
      obtain ⟨c1, c2, h1⟩ := h1
      exact ⟨v, .ty k.nm, _, _, false, rfl, .ty _, ty_ins w1 hd c1, c2, (c.go s1).now w1 h1 (.dat (.bl _))⟩
    · cases e : kdD d with
      | none =>
        cases d with
        | ins C fs => exact absurd ⟨_, _, rfl⟩ hi
        | raw v => exact (h1 : False).elim
        | ktu xs => exact (h1 : False).elim
        | dtt xs => exact (h1 : False).elim
        | exc a dd C fs => exact (h1 : False).elim
        | lam cl k => exact (h1 : False).elim
        | _ => cases e
      | some j =>
        have h2 : ok (.dat (.bl (j.isK k))) st1 := by
          cases d <;> first | exact absurd ⟨_, _, rfl⟩ hi | (cases e <;> exact h1)
        exact ⟨v, .ty k.nm, _, _, _, rfl, .ty _, ty_of w1 hd e, kit_ty (kd_ok j k), (c.go s1).now w1 h2 (.dat (.bl _))⟩
end
/-- what == tells of two scalars -/
def eqSc : Dt → Dt → Option Bool
  | .non, .non => some true
  | .non, .int _ => some false | .int _, .non => some false | .non, .bl _ => some false | .bl _, .non => some false | .non, .str _ => some false | .str _, .non => some false
  | .int i, .int j => some (decide (i = j)) | .bl i, .bl j => some (decide (i = j)) | .str i, .str j => some (decide (i = j))
  | .int _, .str _ => some false | .str _, .int _ => some false | .bl _, .str _ => some false | .str _, .bl _ => some false
  | _, _ => none
def gEqS : G2 := fun x y st ok => match x, y with
  | .dat d, .dat e => match eqSc d e with
    | some b => ok (.dat (.bl b)) st
    | none => False
  | _, _ => False
def gNeS : G2 := fun x y st ok => match x, y with
  | .dat d, .dat e => match eqSc d e with
    | some b => ok (.dat (.bl (!b))) st
    | none => False
  | _, _ => False
theorem eqSc_ok {K : PySem.W.Frag} {I : Hp} {d e : Dt} {v u : V} {b : Bool} (hv : IsD K I d v) (hu : IsD K I e u) (h : eqSc d e = some b) : scal v u = true ∧ b = decide (v = u) := by
  cases hv <;> cases hu <;> first | (cases h; done) | (cases h; exact ⟨rfl, by simp⟩)
theorem lr_eqS {K : PySem.W.Frag} : LR2 K rEq gEqS := by
  intro x y st I H ok Q v w wd ix iy h c
  cases ix with
  | own p => exact h.elim
  | @dat d _ hx =>
    cases iy with
    | own p => exact h.elim
    | @dat e _ hy =>
      cases q : eqSc d e with
      | none =>
        have h' : (match eqSc d e with | some b => ok (.dat (.bl b)) st | none => False) := h
        rw [q] at h'
        exact h'.elim
      | some b =>
        have h' : (match eqSc d e with | some b => ok (.dat (.bl b)) st | none => False) := h
        rw [q] at h'
        obtain ⟨h1, h2⟩ := eqSc_ok hx hy q
        exact ⟨h1, by rw [← h2]; exact c.now wd h' (.dat (.bl _))⟩
theorem lr_neS {K : PySem.W.Frag} : LR2 K rNe gNeS := by
  intro x y st I H ok Q v w wd ix iy h c
  cases ix with
  | own p => exact h.elim
  | @dat d _ hx =>
    cases iy with
    | own p => exact h.elim
    | @dat e _ hy =>
      cases q : eqSc d e with
      | none =>
        have h' : (match eqSc d e with | some b => ok (.dat (.bl (!b))) st | none => False) := h
        rw [q] at h'
        exact h'.elim
      | some b =>
        have h' : (match eqSc d e with | some b => ok (.dat (.bl (!b))) st | none => False) := h
        rw [q] at h'
        obtain ⟨h1, h2⟩ := eqSc_ok hx hy q
        exact ⟨h1, by rw [← h2]; exact c.now wd h' (.dat (.bl _))⟩
/-- is None, is not None -/
def dIsN (te : DE) : DE := fun Δ st ok ex => te Δ st (fun s st1 => match s with
  | .dat .non => ok (.dat (.bl true)) st1
  | .dat (.raw _) => False
  | .dat _ => ok (.dat (.bl false)) st1
  | _ => False) ex
def dNotN (te : DE) : DE := fun Δ st ok ex => te Δ st (fun s st1 => match s with
  | .dat .non => ok (.dat (.bl false)) st1
  | .dat (.raw _) => False
  | .dat _ => ok (.dat (.bl true)) st1
  | _ => False) ex
theorem low_isN {K : PySem.W.Frag} {W : WX} {te : DE} : ∀ σ H Q, low K (dIsN te) W σ H Q → tIsN (low K te W) σ H Q := by
  rintro σ H Q ⟨Δ, st, I, ok, ex, wd, sl, h, c, cx⟩
  refine low_go wd sl h (fun x st1 v I1 H1 h1 w1 s1 i1 => ?_) cx
  cases i1 with
  | own p => exact h1.elim
  | dat hd => cases hd <;> first | exact h1.elim | exact (c.go s1).now w1 h1 (.dat (.bl _))
theorem low_notN {K : PySem.W.Frag} {W : WX} {te : DE} : ∀ σ H Q, low K (dNotN te) W σ H Q → tNotN (low K te W) σ H Q := by
  rintro σ H Q ⟨Δ, st, I, ok, ex, wd, sl, h, c, cx⟩
  refine low_go wd sl h (fun x st1 v I1 H1 h1 w1 s1 i1 => ?_) cx
  cases i1 with
  | own p => exact h1.elim
  | dat hd => cases hd <;> first | exact h1.elim | exact (c.go s1).now w1 h1 (.dat (.bl _))
/-- order of texts, their length, all(bools) -/
def gLeStr : G2 := fun x y st ok => match x, y with
  | .dat (.str a), .dat (.str b) => ok (.dat (.bl (!decide (b.cps.toList < a.cps.toList)))) st
  | _, _ => False
theorem lr_leStr {K : PySem.W.Frag} : LR2 K (fun x y H Q => ∃ i j, x = .str i ∧ y = .str j ∧ Q (.bl (!decide (j.cps.toList < i.cps.toList))) H) gLeStr := by
  intro x y st I H ok Q v w wd ix iy h c
  cases ix with
  | own p => exact h.elim
  | dat hx =>
    cases hx with
    | str a =>
      cases iy with
      | own p => exact h.elim
      | dat hy =>
        cases hy with
        | str b => exact ⟨a, b, rfl, rfl, c.now wd h (.dat (.bl _))⟩
        | _ => exact h.elim
    | _ => cases iy <;> exact h.elim
def gLenS : GC := fun xs st ok => match xs with
  | [.dat (.str z)] => z.length ≤ sizeLine ∧ ok (.dat (.int z.length)) st
  | _ => False
theorem lc_lenS {K : PySem.W.Frag} : LRC (K := K) (fun xs H Q => ∃ z, xs = [.str z] ∧ z.length ≤ sizeLine ∧ Q (.int z.length) H) gLenS := by
  intro xs st I H ok Q vs wd ix h c
  unfold gLenS at h
  split at h
  · obtain ⟨v, rfl, i⟩ := one_of rfl ix
    cases i with
    | dat hd =>
      cases hd
      exact ⟨_, rfl, h.1, c.now wd h.2 (.dat (.int _))⟩
  · exact h.elim
def gAll : GC := fun xs st ok => match xs with
  | [.dat (.lst ds)] => ∃ bs : List Bool, ds = bs.map Dt.bl ∧ ok (.dat (.bl (bs.all id))) st
  | _ => False
theorem bls_of {K : PySem.W.Frag} {I : Hp} : ∀ {bs : List Bool} {vs : List V}, IsDs K I (bs.map Dt.bl) vs → vs = bs.map V.bl
  | [], _, h => by cases h; rfl
  | b :: bs, _, h => by
    cases h with
    | cons a r =>
      cases a
      rw [bls_of r]
      rfl
theorem lc_all {K : PySem.W.Frag} : LRC (K := K) (rAll K) gAll := by
  intro xs st I H ok Q vs wd ix h c
  unfold gAll at h
  split at h
  · obtain ⟨v, rfl, i⟩ := one_of rfl ix
    obtain ⟨bs, rfl, h⟩ := h
    cases i with
    | dat hd =>
      cases hd with
      | lst h1 h2 =>
        have e := bls_of h2
        subst e
        exact ⟨_, bs, rfl, wd.sub.sl (.inl (.inl h1)), c.now wd h (.dat (.bl _))⟩
  · exact h.elim
def gTupT : GC := fun xs st ok => match xs with
  | [.dat (.tup ds)] => ok (.dat (.tup ds)) st
  | [.dat (.ktu ds)] => ok (.dat (.ktu ds)) st
  | [.dat (.lst ds)] => ok (.dat (.tup ds)) st
  | [.own p] => ∃ (j : Nat) (ys : List Sv) (ds : List Dt), st[j]? = some (p, Ob.lst ys) ∧ AllD ys ds ∧ ok (.dat (.tup ds)) st
  | _ => False
theorem lc_tup {K : PySem.W.Frag} : LRC (K := K) (fun xs H Q => ∃ p ys, xs = [.ref p] ∧ ((SqL K H p ys ∧ ∀ l, H l = none → Q (.ref l) (upd H l (.tup ys))) ∨ (SqT K H p ys ∧ Q (.ref p) H))) gTupT := by
  intro xs st I H ok Q vs wd ix h c
  unfold gTupT at h
  split at h
  · obtain ⟨v, rfl, i⟩ := one_of rfl ix
    cases i with
    | dat hd =>
      cases hd with
      | tup h1 h2 => exact ⟨_, _, rfl, .inr ⟨wd.sub.st h1.st, c.now wd h (.dat (.tup h1 h2))⟩⟩
  · obtain ⟨v, rfl, i⟩ := one_of rfl ix
    cases i with
    | dat hd =>
      cases hd with
      | ktu h1 h2 => exact ⟨_, _, rfl, .inr ⟨wd.sub.st h1, c.now wd h (.dat (.ktu h1 h2))⟩⟩
  · obtain ⟨v, rfl, i⟩ := one_of rfl ix
    cases i with
    | dat hd =>
      cases hd with
      | lst h1 h2 =>
        refine ⟨_, _, rfl, .inl ⟨wd.sub.sl (.inl (.inl h1)), fun l hl => ?_⟩⟩
        obtain ⟨w2, s2⟩ := new_known (o := .tup _) wd hl
        exact c _ _ _ _ _ h w2 s2 (.dat (.tup (.inl upd_same) (IsDs.mono (Ex.new (wd.sub.none hl)) h2)))
  · obtain ⟨v, rfl, i⟩ := one_of rfl ix
    obtain ⟨j, ys, ds, hj, ha, h⟩ := h
    cases i with
    | own p =>
      obtain ⟨o, ho, io⟩ := own_at wd hj
      cases io with
      | lst hs =>
        refine ⟨_, _, rfl, .inl ⟨.inl (.inl ho), fun l hl => ?_⟩⟩
        obtain ⟨w2, s2⟩ := new_known (o := .tup _) wd hl
        exact c _ _ _ _ _ h w2 s2 (.dat (.tup (.inl upd_same) (IsDs.mono (Ex.new (wd.sub.none hl)) (isDs_of ha hs))))
  · exact h.elim
end DD
namespace DD
open PySem PySem.Spec PyProof.Rows L2
theorem isDf_look {K : PySem.W.Frag} {I : Hp} {f : Str} : ∀ {ds : List (Str × Dt)} {vs : List (Str × V)}, IsDf K I ds vs → ∀ {d : Dt}, ds.lookup f = some d → ∃ v, vs.lookup f = some v ∧ IsD K I d v
  | _, _, .nil, d, h => by cases h
  | _, _, .cons (k := k) a r, d, h => by
    rw [List.lookup_cons] at h ⊢
    cases e : f == k with
    | true =>
      rw [e] at h
      cases h
      exact ⟨_, rfl, a⟩
    | false =>
      rw [e] at h
      exact isDf_look r h
theorem rk_look {K : PySem.W.Frag} {I : Hp} {f : Str} : ∀ {ds : List (Str × Sv)} {vs : List (Str × V)}, Paired (RK K I) ds vs → ∀ {d : Sv}, ds.lookup f = some d → ∃ v, vs.lookup f = some v ∧ IsS K I d v
  | _, _, .nil, d, h => by cases h
  | _, _, .cons (a := (k, s)) (b := (k', v)) a r, d, h => by
    obtain ⟨e1, e2⟩ := a
    have e1 : k = k' := e1
    subst e1
    rw [List.lookup_cons] at h ⊢
    cases e : f == k with
    | true =>
      rw [e] at h
      cases h
      exact ⟨_, rfl, e2⟩
    | false =>
      rw [e] at h
      exact rk_look r h
def dFld (K : PySem.W.Frag) (f : Str) (te : DE) : DE := fun Δ st ok ex => te Δ st (fun s st1 => match s with
  | .dat (.ins C fs) => Cls K C ∧ NoAttr K C f ∧ ∃ d, fs.lookup f = some d ∧ ok (.dat d) st1
  | .own p => ∃ (j : Nat) (C : Addr) (fs : List (Str × Sv)) (x : Sv), st1[j]? = some (p, Ob.ins C fs) ∧ Cls K C ∧ NoAttr K C f ∧ fs.lookup f = some x ∧ ok x st1
  | _ => False) ex
theorem low_fld {K : PySem.W.Frag} {W : WX} {f : Str} {te : DE} : ∀ σ H Q, low K (dFld K f te) W σ H Q → tFld K (low K te W) f σ H Q := by
  rintro σ H Q ⟨Δ, st, I, ok, ex, wd, sl, h, c, cx⟩
  refine low_go wd sl h (fun x st1 v I1 H1 h1 w1 s1 i1 => ?_) cx
  cases i1 with
  | own p =>
    obtain ⟨j, C, fs, x, hj, cl, na, hl, h1⟩ := h1
    obtain ⟨o, ho, io⟩ := own_at w1 hj
    cases io with
    | ins hs =>
      obtain ⟨u, hu, iu⟩ := rk_look hs hl
      exact ⟨p, C, _, _, u, rfl, ho, cl, na, hu, (c.go s1).now w1 h1 iu⟩
  | dat hd =>
    cases hd with
    | ins a b =>
      obtain ⟨cl, na, d, hl, h1⟩ := h1
      obtain ⟨u, hu, iu⟩ := isDf_look b hl
      exact ⟨_, _, _, _, u, rfl, w1.sub.at a (by intro k z; cases z) (by intro k z; cases z), cl, na, hu, (c.go s1).now w1 h1 (.dat iu)⟩
    | _ => exact h1.elim
/-- a property by its getter's promise -/
def dProp (C : Addr) (ct : Ct) (te : DE) : DE := fun Δ st ok ex => te Δ st (fun s st1 => match s with
  | .dat (.ins D fs) => D = C ∧ ct [.dat (.ins D fs)] st1 ok fun _ _ => False
  | _ => False) ex
theorem low_prop {K : PySem.W.Frag} {W : WX} {C : Addr} {ct : Ct} {te : DE} : ∀ σ H Q, low K (dProp C ct te) W σ H Q → tProp C (lowF K ct) [] E0 (low K te W) σ H Q := by
  rintro σ H Q ⟨Δ, st, I, ok, ex, wd, sl, h, c, cx⟩
  refine low_go wd sl h (fun x st1 v I1 H1 h1 w1 s1 i1 => ?_) cx
  cases i1 with
  | own p => exact h1.elim
  | dat hd =>
    cases hd with
    | ins a b =>
      obtain ⟨rfl, h1⟩ := h1
      exact ⟨_, _, _, rfl, w1.sub.at a (by intro k z; cases z) (by intro k z; cases z), _, st1, I1, ok, _, w1, .cons (.dat (.ins a b)) .nil, h1, c.go s1, fun _ _ _ _ _ _ z => z.elim⟩
    | _ => exact h1.elim
/-- o.f = e, o of one's own -/
def putS (f : Str) (v : Sv) : List (Str × Sv) → List (Str × Sv)
  | [] => [(f, v)]
  | (g, x) :: r => if g = f then (g, v) :: r else (g, x) :: putS f v r
theorem rk_put {K : PySem.W.Frag} {I : Hp} {f : Str} {s : Sv} {v : V} (h : IsS K I s v) : ∀ {fs : List (Str × Sv)} {gs : List (Str × V)}, Paired (RK K I) fs gs → Paired (RK K I) (putS f s fs) (putF f v gs)
  | _, _, .nil => .cons ⟨rfl, h⟩ .nil
  | _, _, .cons (a := (k, x)) (b := (k', y)) a r => by
    obtain ⟨e1, e2⟩ := a
    have e1 : k = k' := e1
    subst e1
    show Paired (RK K I) (if k = f then (k, s) :: _ else (k, x) :: putS f s _) (if k = f then (k, v) :: _ else (k, y) :: putF f v _)
    by_cases e : k = f
    · rw [if_pos e, if_pos e]
      exact .cons ⟨rfl, h⟩ r
    · rw [if_neg e, if_neg e]
      exact .cons ⟨rfl, e2⟩ (rk_put h r)
def dSetF (K : PySem.W.Frag) (f : Str) (tv to : DE) : DS := fun Δ st N => tv Δ st (fun v st1 => to Δ st1 (fun o st2 => match o with
  | .own p => ∃ (j : Nat) (C : Addr) (fs fs' : List (Str × Sv)), st2[j]? = some (p, Ob.ins C fs) ∧ Cls K C ∧ NoAttr K C f ∧ fs.length < 1000 ∧ putS f v fs = fs' ∧ N.nx Δ (st2.set j (p, .ins C fs'))
  | _ => False) (exAt N Δ)) (exAt N Δ)
theorem lowS_setF {K : PySem.W.Frag} {W : WX} {f : Str} {tv to : DE} : ∀ D σ H, lowS K (dSetF K f tv to) W D σ H → sFld K (low K to W) (low K tv W) f D σ H := by
  rintro D σ H ⟨Δ, st, I, N, wd, sl, h, e⟩
  refine low_go wd sl h (fun v st1 vv I1 H1 h1 w1 s1 i1 => ?_) (cx_of sl e)
  refine low_go w1 (sl.mono s1.ii) h1 (fun o st2 ov I2 H2 h2 w2 s2 i2 => ?_) (cx_of (sl.mono s1.ii) (e.go s1))
  have s12 := s1.trans s2
  cases i2 with
  | dat hd => exact h2.elim
  | own p =>
    obtain ⟨j, C, fs, fs', hj, cl, na, hl, rfl, hn⟩ := h2
    obtain ⟨u, hu, io⟩ := own_at w2 hj
    cases io with
    | @ins _ dx _ gs hs =>
      obtain ⟨w3, s3⟩ := set_own (o' := .ins C dx (putF f vv gs)) w2 hj (.ins (rk_put (i1.mono s2.ii) hs))
      exact ⟨p, C, dx, gs, rfl, hu, cl, na, by rw [← paired_len hs]; exact hl, e.nx _ _ _ _ _ hn w3 (s12.trans s3) (sl.mono s12.ii)⟩
inductive AllF : List (Str × Sv) → List (Str × Dt) → Prop
  | nil : AllF [] []
  | cons {f : Str} {d : Dt} {xs : List (Str × Sv)} {ds : List (Str × Dt)} : AllF xs ds → AllF ((f, .dat d) :: xs) ((f, d) :: ds)
theorem isDf_of {K : PySem.W.Frag} {I : Hp} : ∀ {xs : List (Str × Sv)} {ds : List (Str × Dt)} {vs : List (Str × V)}, AllF xs ds → Paired (RK K I) xs vs → IsDf K I ds vs
  | _, _, _, .nil, .nil => .nil
  | _, _, _, .cons a, .cons (b := (k, v)) r t => by
    obtain ⟨e, i⟩ := r
    have e : _ = k := e
    subst e
    cases i with
    | dat h => exact .cons h (isDf_of a t)
/-- C(..): what __init__ promises, then the instance, known from then on -/
def dMake (C : Addr) (ct : Ct) (dds : List Dt) (t : DA) : DE := fun Δ st ok ex => t Δ st (fun xs st1 => ∀ p, p ∉ keys st1 → ct (.own p :: (xs ++ dds.map Sv.dat)) ((p, .ins C []) :: st1) (fun s st2 => s = .dat .non ∧ ∃ fs ds st3, st2 = (p, .ins C fs) :: st3 ∧ AllF fs ds ∧ ok (.dat (.ins C ds)) st3) ex) ex
def tMakeAt (C : Addr) (sp : Sp) (dvs : List V) (E : L2.St → XK) (t : TA) : TE := fun σ H Q => t σ H fun vs H1 => ∀ x dx, H1 x = none → H1 dx = none → dx ≠ x →
  sp (.ref x :: (vs ++ dvs)) (upd (upd H1 dx (.own x)) x (.ins C dx [])) (fun v H2 => v = .non ∧ Q (.ref x) H2) (E σ)
section
variable {K : PySem.W.Frag} {W : WX} {st : Store} {I H : Hp}
theorem new_ins {x dx C : Addr} (w : Wd K st I H) (hx : H x = none) (hd : H dx = none) (ne : dx ≠ x) : x ∉ keys st ∧ Wd K ((x, .ins C []) :: st) I (upd (upd H dx (.own x)) x (.ins C dx [])) ∧ Stp st I H ((x, .ins C []) :: st) I (upd (upd H dx (.own x)) x (.ins C dx [])) := by
  have w1 : Wd K st I (upd H dx (.own x)) := ⟨fun a u e => by
      have z : a ≠ dx := ne_of_none e (w.sub.none hd)
      rw [upd_ne z]
      exact w.sub a u e, fun q ob hq => by
      obtain ⟨h1, u, h2, h3⟩ := w.own q ob hq
      exact ⟨h1, u, by rw [upd_ne (ne_of_none h2 hd)]; exact h2, h3⟩, w.nd⟩
  have s1 : Stp st I H st I (upd H dx (.own x)) := ⟨Ex.refl _, fun a u _ e => by rw [upd_ne (ne_of_none e hd)]; exact e, fun a e => .inl e, fun q hq => .inl hq⟩
  obtain ⟨a, b, c⟩ := new_own (o := .ins C dx []) (ob := .ins C []) w1 (by rw [upd_ne ne.symm]; exact hx) (.ins .nil)
  exact ⟨a, b, s1.trans c⟩
theorem low_make {C : Addr} {ct : Ct} {dds : List Dt} {dvs : List V} {t : DA} (hd : ∀ I, IsSs K I (dds.map Sv.dat) dvs) : ∀ σ H Q, low K (dMake C ct dds t) W σ H Q → tMakeAt C (lowF K ct) dvs (WE W) (lowA K t W) σ H Q := by
  rintro σ H Q ⟨Δ, st, I, ok, ex, wd, sl, h, c, cx⟩
  refine lowA_go wd sl h (fun xs st1 vs I1 H1 h1 w1 s1 i1 => ?_) cx
  intro x dx hx hdx ne
  obtain ⟨np, w2, s2⟩ := new_ins (C := C) w1 hx hdx ne
  refine ⟨_, _, I1, _, ex, w2, .cons (.own x) (paired_app i1 (hd I1)), h1 x np, fun s st' v I' H' h' w' s' i' => ?_, cx.go (s1.trans s2)⟩
  obtain ⟨rfl, fs, ds, st3, rfl, hf, h'⟩ := h'
  cases i' with
  | dat hn =>
    cases hn
    refine ⟨rfl, ?_⟩
    have hm : (x, Ob.ins C fs) ∈ (x, Ob.ins C fs) :: st3 := List.mem_cons_self
    obtain ⟨ip, o, hp, io⟩ := w'.own x _ hm
    have nx : x ∉ keys st3 := (List.nodup_cons.mp w'.nd).1
    cases io with
    | @ins _ dx2 _ gs hs =>
      have e1 : Ex I' (upd I' x (.ins C dx2 gs)) := Ex.new ip
      have st13 : Stp st1 I1 H1 _ I' H' := s2.trans s'
      refine (c.go s1) _ _ _ (upd I' x (.ins C dx2 gs)) _ h' ⟨fun a u e => ?_, fun q ob hq => ?_, (List.nodup_cons.mp w'.nd).2⟩ ⟨st13.ii.trans e1, st13.hh, fun a ha => ?_, fun q hq => st13.ks q (List.mem_cons_of_mem _ hq)⟩ (.dat (.ins upd_same ((isDf_of hf hs).mono e1)))
      · by_cases z : a = x
        · subst z
          rw [upd_same] at e
          cases e
          exact .inl hp
        · rw [upd_ne z] at e
          exact w'.sub a u e
      · obtain ⟨a1, u, a2, a3⟩ := w'.own q ob (List.mem_cons_of_mem _ hq)
        have z : q ≠ x := fun z => nx (z ▸ List.mem_map.mpr ⟨_, hq, rfl⟩)
        exact ⟨by rw [upd_ne z]; exact a1, u, a2, a3.mono e1⟩
      · by_cases z : a = x
        · subst z
          exact .inr (.inl hx)
        · rw [upd_ne z] at ha
          exact st13.nw a ha
end
section
variable {X : Cx} {CX : CXT} {k : Nat} {f C : Addr} {fd : FuncData} {ps : List Str} {sp : Sp} {dvs : List V} {dus : List Value} {E : L2.St → XK} {x : Str} {p pos : Pos} {e : Expr} {es : List Expr} {t : TA}
/-- C(..), what is raised being wished for at the slots -/
theorem pe_makeAt (M : Mk X.K C f) (F : FnOk X.prog X.w X.K X.mg X.base CX k f fd ps sp) (hr : Room (k + 1) X.A) (hm : X.mg x = some (.ref C)) (hb : Binds X.K fd ps dus) (hd : Vals dvs dus) (hx : ∀ σ, PassesAt CX X σ (E σ))
    (ha : PA X (e :: es) t) (hg : Gl X x := by rfl) (hdb : (x == ("__debug__" : Str)) = false := by decide) (he : starEach (e :: es) X.env = (false, eval e X.env) :: starEach es X.env := by rfl) (hpl : (backTo pos (starEach es X.env)).any (·.1) = false := by rfl) :
    PE X (.Call (.Name x p) (e :: es) [] pos) (tMakeAt C sp dvs E t) := by
  constructor
  intro pins s σ H Q I h
  apply wpAny_Call_Name_kw
  apply ld_glob I hg hm _ hdb
  apply PySem.W.callWith_K (h₀ := X.base) I.ok.mod.kin M.kp _ he hpl
  apply thn (ha.run pos pins s σ H _ I h)
  rintro us s1 ⟨vs, H1, I1, r, h1⟩
  refine ⟨I1.kIn, ?_⟩
  -- the two new objects stand behind all others
  have q := h1 (s1.heap.objs.size + 1) s1.heap.objs.size (I1.hok.fresh (Nat.le_succ _)) (I1.hok.fresh (Nat.le_refl _)) (Nat.ne_of_lt (Nat.lt_succ_self _))
  have J := Inv.made (C := C) I1
  have rr : Vals (V.ref (s1.heap.objs.size + 1) :: (vs ++ dvs)) (Value.ref (s1.heap.objs.size + 1) :: (us ++ dus)) := .cons rfl (r.append hd)
  have len : (Value.ref (s1.heap.objs.size + 1) :: us ++ dus).length = ps.length := by
    have l1 := rr.length
    have l2 := F.len _ _ _ _ q
    rw [← l2]
    exact l1.symm
  apply wpAny_call
  apply make_map (f := f) I1.kIn M.makes M.init (beq_iff_eq.mp M.fn)
  apply codeAny_mono (F.run _ X.stack _ _ ⟨Value.ref (s1.heap.objs.size + 1) :: us, []⟩ (Value.ref (s1.heap.objs.size + 1) :: (us ++ dus)) _ _ (E σ) (hr.make C us []) (J.env0.make C us []) (hb _ (Value.ref (s1.heap.objs.size + 1) :: us) J.kIn len) rr q)
  intro res s2 hres
  match res, hres with
  | .error er, z => exact hx σ pins _ _ er s2 J z
  | .ok (.ret u), z =>
    obtain ⟨v, H2, I2, rv, ev, q2⟩ := J.after z
    subst ev
    exact ⟨rv, ⟨V.ref (s1.heap.objs.size + 1), H2, I2, rfl, q2⟩⟩
  | .ok .next, z => exact False.elim z
  | .ok .brk, z => exact False.elim z
  | .ok .cont, z => exact False.elim z
end
end DD
namespace DD
open PySem PySem.Spec PyProof.Rows L2
/-- the items that come, one after the other -/
structure Wk (K : PySem.W.Frag) (st : Store) (I H : Hp) (J : It) (xs : List Sv) : Prop where
  w : ∃ (G : Hp → Prop) (Y : Nat → Hp → V → Hp → Prop), Walk J xs.length G Y ∧ (∀ st2 I2 H2, Wd K st2 I2 H2 → Stp st I H st2 I2 H2 → G H2) ∧
    ∀ (i : Nat) H2 x H3 st2 I2, i < xs.length → Wd K st2 I2 H2 → Stp st I H st2 I2 H2 → Y i H2 x H3 → ∃ s I3, xs[i]? = some s ∧ Wd K st2 I3 H3 ∧ Stp st2 I2 H2 st2 I3 H3 ∧ IsS K I3 s x
abbrev DI := List Sv → Store → (List Sv → Store → Prop) → EK → Prop
def lowI (K : PySem.W.Frag) (it : DI) (W : WX) : TI := fun σ H R => ∃ Δ st I ok ex, Wd K st I H ∧ Sl K Δ I σ ∧ it Δ st ok ex ∧
  (∀ xs st' I' H' J, ok xs st' → Wd K st' I' H' → Stp st I H st' I' H' → Wk K st' I' H' J xs → R J H') ∧ ContX K st I H ex fun cls d H' => W cls d σ H'
theorem PI.imp {X : Cx} {tg e : Expr} {t t' : TI} (h : PI X tg e t) (i : ∀ σ H R, t' σ H R → t σ H R) : PI X tg e t' := ⟨fun pins s σ H R J q => h.run pins s σ H R J (i σ H R q)⟩
section
variable {K : PySem.W.Frag} {W : WX} {st : Store} {I H : Hp}
theorem wk_at {J : It} {xs : List Sv} {vs : List V} (hp : IsSs K I xs vs) {G : Hp → Prop} (w : Walk J vs.length G (YAt vs)) (hg : ∀ st2 I2 H2, Wd K st2 I2 H2 → Stp st I H st2 I2 H2 → G H2) : Wk K st I H J xs := by
  refine ⟨G, YAt vs, by rw [paired_len hp]; exact w, hg, fun i H2 x H3 st2 I2 hi w2 s2 y => ?_⟩
  obtain ⟨e, y⟩ := y
  subst e
  obtain ⟨s, h1, h2⟩ := paired_back hp y
  exact ⟨s, I2, h1, w2, Stp.refl _ _ _, h2.mono s2.ii⟩
/-- a known list, a list of one's own (not changed in the loop: its items as they are at the start) -/
def dItL (te : DE) : DI := fun Δ st ok ex => te Δ st (fun x st1 => match x with
  | .dat (.lst ds) => ok (ds.map .dat) st1
  | .dat (.fls ds) => ok (ds.map .dat) st1
  | _ => False) ex
def dItT (te : DE) : DI := fun Δ st ok ex => te Δ st (fun x st1 => match x with
  | .dat (.tup ds) => ok (ds.map .dat) st1
  | .dat (.ktu ds) => ok (ds.map .dat) st1
  | _ => False) ex
theorem low_itL {te : DE} : ∀ σ H R, lowI K (dItL te) W σ H R → iList K (low K te W) σ H R := by
  rintro σ H R ⟨Δ, st, I, ok, ex, wd, sl, h, c, cx⟩
  refine low_go wd sl h (fun x st1 v I1 H1 h1 w1 s1 i1 => ?_) cx
  cases i1 with
  | own p => exact h1.elim
  | dat hd =>
    cases hd with
    | lst a b => exact ⟨_, rfl, ⟨_, w1.sub.sl (.inl (.inl a))⟩, c _ _ _ _ _ h1 w1 s1 (wk_at (isSs_of b) walk_list fun st2 I2 H2 w2 s2 => w2.sub.sl (.inl (.inl (s2.ii _ _ a))))⟩
    | fls a b => exact ⟨_, rfl, ⟨_, w1.sub.sl a⟩, c _ _ _ _ _ h1 w1 s1 (wk_at (isSs_of b) walk_list fun st2 I2 H2 w2 s2 => w2.sub.sl (s2.ii.sl a))⟩
    | _ => exact h1.elim
theorem low_itT {te : DE} : ∀ σ H R, lowI K (dItT te) W σ H R → iTup K (low K te W) σ H R := by
  rintro σ H R ⟨Δ, st, I, ok, ex, wd, sl, h, c, cx⟩
  refine low_go wd sl h (fun x st1 v I1 H1 h1 w1 s1 i1 => ?_) cx
  cases i1 with
  | own p => exact h1.elim
  | dat hd =>
    cases hd with
    | tup a b => exact ⟨_, rfl, ⟨_, w1.sub.st a.st⟩, c _ _ _ _ _ h1 w1 s1 (wk_at (isSs_of b) walk_tup fun st2 I2 H2 w2 s2 => w2.sub.st (s2.ii.st a.st))⟩
    | ktu a b => exact ⟨_, rfl, ⟨_, w1.sub.st a⟩, c _ _ _ _ _ h1 w1 s1 (wk_at (isSs_of b) walk_tup fun st2 I2 H2 w2 s2 => w2.sub.st (s2.ii.st a))⟩
    | _ => exact h1.elim
/-- range(n), range(a, b) -/
def rngS (lo : Int) (n : Nat) : List Sv := (List.range n).map fun (i : Nat) => .dat (.int (lo + (i : Int)))
def dItR (ta : DA) : DI := fun Δ st ok ex => ta Δ st (fun xs st1 => match xs with
  | [.dat (.int n)] => -(2 ^ 62) ≤ n ∧ n < 2 ^ 62 ∧ ok (rngS 0 n.toNat) st1
  | _ => False) ex
theorem wk_range {lo : Int} {n : Nat} : Wk K st I H (Itr lo n) (rngS lo n) := by
  refine ⟨fun _ => True, YFn fun i => .int (lo + i), by simpa [rngS] using walk_range, fun _ _ _ _ _ => trivial, fun i H2 x H3 st2 I2 hi w2 s2 y => ?_⟩
  obtain ⟨e, y⟩ := y
  subst e y
  have hi' : i < n := by simpa [rngS] using hi
  exact ⟨.dat (.int (lo + (i : Int))), I2, by simp [rngS, hi'], w2, Stp.refl _ _ _, .dat (.int _)⟩
theorem low_itR {ta : DA} : ∀ σ H R, lowI K (dItR ta) W σ H R → iRng1 (lowA K ta W) σ H R := by
  rintro σ H R ⟨Δ, st, I, ok, ex, wd, sl, h, c, cx⟩
  refine lowA_go wd sl h (fun xs st1 vs I1 H1 h1 w1 s1 i1 => ?_) cx
  split at h1
  · obtain ⟨v, rfl, iv⟩ := one_of rfl i1
    cases iv with
    | dat hd =>
      cases hd
      exact ⟨_, rfl, h1.1, h1.2.1, c _ _ _ _ _ h1.2.2 w1 s1 wk_range⟩
  · exact h1.elim
/-- a text, sign by sign -/
def sgnS (z : Str) : List Sv := z.cps.toList.map fun c => .dat (.str ⟨#[c]⟩)
def dItS (te : DE) : DI := fun Δ st ok ex => te Δ st (fun x st1 => match x with
  | .dat (.str z) => ok (sgnS z) st1
  | _ => False) ex
theorem low_itS {te : DE} : ∀ σ H R, lowI K (dItS te) W σ H R → iStr (low K te W) σ H R := by
  rintro σ H R ⟨Δ, st, I, ok, ex, wd, sl, h, c, cx⟩
  refine low_go wd sl h (fun x st1 v I1 H1 h1 w1 s1 i1 => ?_) cx
  cases i1 with
  | own p => exact h1.elim
  | dat hd =>
    cases hd with
    | str z =>
      refine ⟨z, rfl, c _ _ _ _ _ h1 w1 s1 ⟨fun _ => True, _, by simpa [sgnS] using walk_str, fun _ _ _ _ _ => trivial, fun i H2 x H3 st2 I2 hi w2 s2 y => ?_⟩⟩
      obtain ⟨e, c, hc, y⟩ := y
      subst e y
      exact ⟨.dat (.str ⟨#[c]⟩), I2, by rw [sgnS, List.getElem?_map, Array.getElem?_toList, hc]; rfl, w2, Stp.refl _ _ _, .dat (.str _)⟩
    | _ => exact h1.elim
def dFor (it : DI) (g : DG) (body : DS) : DS := fun Δ st N => it Δ st (fun xs st1 => loopD xs g body Δ st1 N) (exAt N Δ)
theorem for_go {g : DG} {body : DS} {Δ : List Sv} {N : DN} {D : Ends} {σ : L2.St} {J : It} {xs : List Sv} (e : Ends_ K st I H N W D) (w1 : Wd K st I H) (sl : Sl K Δ I σ) (h1 : loopD xs g body Δ st N) (k1 : Wk K st I H J xs) :
    ∃ W' : Nat → Nat → L2.St → Hp → Prop, (∃ m, W' 0 m σ H) ∧ ∀ i m σ H, W' i m σ H →
      (J.stop i H ∧ D.nx σ H) ∨ (J.go i H ∧ ∃ N : L2.St → Hp → Prop, (∀ σ' H', N σ' H' → ∃ m', m' < m ∧ W' (i + 1) m' σ' H') ∧ ∀ x H', J.yld i H x H' → lowG K g x σ H' fun σ2 H2 => lowS K body W { D with nx := N, ct := N, bk := D.nx } σ2 H2) := by
  rw [loopD_eq] at h1
  obtain ⟨Jv, j0, jt, je⟩ := h1
  obtain ⟨G, Y, wk, hg, hy⟩ := k1.w
  refine for_it wk (fun i σ' H' => ∃ Δ' st' I', Jv i Δ' st' ∧ Wd K st' I' H' ∧ Sl K Δ' I' σ' ∧ Stp st I H st' I' H') ⟨Δ, st, I, j0, w1, sl, Stp.refl _ _ _⟩ (fun i σ' H' _ ⟨_, st', I', _, w', _, s'⟩ => hg st' I' H' w' s') ?_ ?_
  · rintro i x σ' H' H3 hi ⟨Δ', st', I', hj, w', l', s'⟩ y
    obtain ⟨d, I3, hd, w3, s3, ix⟩ := hy i H' x H3 st' I' hi w' s' y
    exact loop_turn e w3 (l'.mono s3.ii) (s'.trans s3) ix (jt i d Δ' st' hd hj)
  · rintro σ' H' ⟨Δ', st', I', hj, w', l', s'⟩
    exact e.nx _ _ _ _ _ (je _ _ hj) w' s' l'
theorem lowS_for {it : DI} {g : DG} {body : DS} : ∀ D σ H, lowS K (dFor it g body) W D σ H → tFor (lowI K it W) (lowG K g) (lowS K body W) D σ H := by
  rintro D σ H ⟨Δ, st, I, N, wd, sl, h, e⟩
  exact ⟨Δ, st, I, _, _, wd, sl, h, fun xs st1 I1 H1 J h1 w1 s1 k1 => for_go (e.go s1) w1 (sl.mono s1.ii) h1 k1, cx_of sl e⟩
def wipeD (Δ : List Sv) : List Nat → List Sv
  | [] => Δ
  | v :: vs => (wipeD Δ vs).set v .un
theorem sl_un {Δ : List Sv} {σ : L2.St} (h : Sl K Δ I σ) (i : Nat) : Sl K (Δ.set i .un) I (σ.set i none) := by
  refine ⟨by rw [List.length_set, List.length_set]; exact h.1, fun j t ht => ?_⟩
  by_cases e : i = j
  · subst e
    have hl : i < Δ.length := by
      have := (List.getElem?_eq_some_iff.mp ht).1
      rwa [List.length_set] at this
    rw [List.getElem?_set_self hl] at ht
    cases ht
    exact .inl rfl
  · rw [List.getElem?_set_ne e] at ht
    rw [List.getElem?_set_ne e]
    exact h.2 j t ht
theorem sl_wipe {Δ : List Sv} {σ : L2.St} (h : Sl K Δ I σ) : ∀ vs, Sl K (wipeD Δ vs) I (wipe σ vs)
  | [] => h
  | v :: vs => sl_un (sl_wipe h vs) v
theorem wipe_set {σ : L2.St} {i : Nat} {x : Option V} : ∀ {vs : List Nat}, i ∈ vs → wipe (σ.set i x) vs = wipe σ vs
  | v :: vs, h => by
    unfold wipe
    by_cases e : i = v
    · subst e
      by_cases h2 : i ∈ vs
      · rw [wipe_set h2]
      · have : ∀ {vs : List Nat}, i ∉ vs → wipe (σ.set i x) vs = (wipe σ vs).set i x := by
          intro vs
          induction vs with
          | nil => intro _; rfl
          | cons w ws ih =>
            intro hn
            show (wipe (σ.set i x) ws).set w none = ((wipe σ ws).set w none).set i x
            have hwi : w ≠ i := fun z => hn (by rw [z]; exact List.mem_cons_self)
            rw [ih (fun z => hn (List.mem_cons_of_mem _ z)), List.set_comm _ _ hwi.symm]
        rw [this h2, List.set_set]
    · rw [wipe_set ((List.mem_cons.mp h).resolve_left e)]
theorem wipe_wipe {σ : L2.St} : ∀ vs : List Nat, wipe (wipe σ vs) vs = wipe σ vs := by
  intro vs
  have : ∀ ws : List Nat, (∀ w ∈ ws, w ∈ vs) → wipe (wipe σ ws) vs = wipe σ vs := by
    intro ws
    induction ws with
    | nil => intro _; rfl
    | cons w ws ih =>
      intro hw
      show wipe ((wipe σ ws).set w none) vs = _
      rw [wipe_set (hw w List.mem_cons_self), ih fun z hz => hw z (List.mem_cons_of_mem _ hz)]
  exact this vs fun _ h => h
/-- targets that keep to the slots vs -/
def lowGw (K : PySem.W.Frag) (vs : List Nat) (g : DG) : TG := fun v σ H Q => ∃ s Δ st I k, Wd K st I H ∧ Sl K Δ I σ ∧ IsS K I s v ∧ g s Δ st k ∧ ContS K st I H k fun σ' H' => wipe σ' vs = wipe σ vs → Q σ' H'
theorem lowGw_name {vs : List Nat} {i : Nat} (hi : i ∈ vs) : ∀ v σ H Q, lowGw K vs (dgName i) v σ H Q → gName i v σ H Q := by
  rintro v σ H Q ⟨s, Δ, st, I, k, wd, sl, iv, h, c⟩
  exact c _ _ _ _ _ h wd (Stp.refl _ _ _) (sl.set iv) (wipe_set hi)
abbrev W0 : WX := fun _ _ _ _ => False
def dYes : DT := fun _ st ok _ => ok true st
/-- [elt for g in it if tt]: J by the turn, what is made so far, the store without the new list (at D) -/
@[irreducible] def lcD (g : DG) (tt : DT) (te : DE) (vs : List Nat) (xs : List Sv) (Δ : List Sv) (st1 : Store) (ok : OK) : Prop := ∀ D, D ∉ keys st1 → ∃ J : Nat → List Sv → Store → Prop, J 0 [] st1 ∧
  (∀ i d acc st', xs[i]? = some d → J i acc st' → D ∉ keys st' → g d (wipeD Δ vs) ((D, .lst acc) :: st') fun Δ2 st2 => tt Δ2 st2 (fun b st3 =>
    (b = true → te Δ2 st3 (fun y st4 => ∃ acc' st5, st4 = (D, .lst acc') :: st5 ∧ acc'.length < sizeLine ∧ J (i + 1) (acc' ++ [y]) st5) fun _ _ => False) ∧ (b = false → ∃ acc' st5, st3 = (D, .lst acc') :: st5 ∧ J (i + 1) acc' st5)) fun _ _ => False) ∧
  ∀ acc st', J xs.length acc st' → ∃ ds, AllD acc ds ∧ ok (.dat (.lst ds)) st'
theorem lcD_eq (g : DG) (tt : DT) (te : DE) (vs : List Nat) (xs : List Sv) (Δ : List Sv) (st1 : Store) (ok : OK) : lcD g tt te vs xs Δ st1 ok = (∀ D, D ∉ keys st1 → ∃ J : Nat → List Sv → Store → Prop, J 0 [] st1 ∧
  (∀ i d acc st', xs[i]? = some d → J i acc st' → D ∉ keys st' → g d (wipeD Δ vs) ((D, .lst acc) :: st') fun Δ2 st2 => tt Δ2 st2 (fun b st3 =>
    (b = true → te Δ2 st3 (fun y st4 => ∃ acc' st5, st4 = (D, .lst acc') :: st5 ∧ acc'.length < sizeLine ∧ J (i + 1) (acc' ++ [y]) st5) fun _ _ => False) ∧ (b = false → ∃ acc' st5, st3 = (D, .lst acc') :: st5 ∧ J (i + 1) acc' st5)) fun _ _ => False) ∧
  ∀ acc st', J xs.length acc st' → ∃ ds, AllD acc ds ∧ ok (.dat (.lst ds)) st') := by
  unfold lcD
  rfl
def dLc (it : DI) (g : DG) (tt : DT) (te : DE) (vs : List Nat) : DE := fun Δ st ok ex => it Δ st (fun xs st1 => lcD g tt te vs xs Δ st1 ok) ex
theorem pub_head {p : Addr} {ob : Ob} {o : HO} {st0 : Store} {I0 H0 : Hp} (w : Wd K ((p, ob) :: st) I H) (hp : H p = some o) (sp : Stp st0 I0 H0 ((p, ob) :: st) I H) : Wd K st (upd I p o) H ∧ Stp st0 I0 H0 st (upd I p o) H ∧ Ex I (upd I p o) := by
  obtain ⟨ip, _⟩ := w.own p ob List.mem_cons_self
  have np : p ∉ keys st := (List.nodup_cons.mp w.nd).1
  have e1 : Ex I (upd I p o) := Ex.new ip
  refine ⟨⟨fun a u e => ?_, fun q ob2 hq => ?_, (List.nodup_cons.mp w.nd).2⟩, ⟨sp.ii.trans e1, sp.hh, fun a ha => ?_, fun q hq => sp.ks q (List.mem_cons_of_mem _ hq)⟩, e1⟩
  · by_cases z : a = p
    · subst z
      rw [upd_same] at e
      cases e
      exact .inl hp
    · rw [upd_ne z] at e
      exact w.sub a u e
  · obtain ⟨a1, u, a2, a3⟩ := w.own q ob2 (List.mem_cons_of_mem _ hq)
    have z : q ≠ p := fun z => np (z ▸ List.mem_map.mpr ⟨_, hq, rfl⟩)
    exact ⟨by rw [upd_ne z]; exact a1, u, a2, a3.mono e1⟩
  · by_cases z : a = p
    · subst z
      rcases sp.ks a List.mem_cons_self with q | q
      · exact .inr (.inr (.inl q))
      · exact .inr (.inl q)
    · rw [upd_ne z] at ha
      exact sp.nw a ha
theorem lc_go {g : DG} {tt : DT} {te : DE} {vs : List Nat} {Δ : List Sv} {ok : OK} {σ : L2.St} {Q : VK} {J : It} {xs : List Sv} (w1 : Wd K st I H) (sl : Sl K Δ I σ) (h1 : lcD g tt te vs xs Δ st ok) (k1 : Wk K st I H J xs) (c : Cont K st I H ok Q) :
    ∀ D, H D = none → ∃ W : Nat → Nat → Hp → Prop, (∃ m, W 0 m (upd H D (.lst []))) ∧ ∀ i m H, W i m H →
  (J.stop i H ∧ Q (.ref D) H) ∨ (J.go i H ∧ ∃ Nx : Hp → Prop, (∀ H', Nx H' → ∃ m', m' < m ∧ W (i + 1) m' H') ∧ ∀ x H', J.yld i H x H' → lowGw K vs g x (wipe σ vs) H' fun σ2 H2 => wipe σ2 vs = wipe σ vs ∧ lowT K tt W0 σ2 H2 fun b H3 =>
    if b = true then low K te W0 σ2 H3 fun y H4 => ∃ acc, H4 D = some (.lst acc) ∧ acc.length < sizeLine ∧ Nx (upd H4 D (.lst (acc ++ [y]))) else Nx H3) := by
  intro D hD
  obtain ⟨np, w2, s2⟩ := new_own (o := .lst []) (ob := .lst []) w1 hD (.lst .nil)
  rw [lcD_eq] at h1
  obtain ⟨Jv, j0, jt, je⟩ := h1 D np
  obtain ⟨G, Y, wk, hg, hy⟩ := k1.w
  refine lc_it wk (fun i H' => ∃ acc st' I', Jv i acc st' ∧ Wd K ((D, .lst acc) :: st') I' H' ∧ Stp st I H ((D, .lst acc) :: st') I' H') ⟨[], st, I, j0, w2, s2⟩ (fun i H' _ ⟨_, _, I', _, w', s'⟩ => hg _ I' H' w' s') ?_ ?_
  · rintro i x H' H3 hi ⟨acc, st', I', hj, w', s'⟩ y
    obtain ⟨d, I3, hd, w3, s3, ix⟩ := hy i H' x H3 _ I' hi w' s' y
    have s13 := s'.trans s3
    have nd : D ∉ keys st' := (List.nodup_cons.mp w'.nd).1
    refine ⟨d, _, _, I3, _, w3, sl_wipe (sl.mono s13.ii) vs, ix, jt i d acc st' hd hj nd, fun Δ4 st4 σ4 I4 H4 h4 w4 s4 l4 e4 => ?_⟩
    have s14 := s13.trans s4
    refine ⟨by rw [e4, wipe_wipe], ?_⟩
    refine lowT_go w4 l4 h4 (fun b st5 I5 H5 h5 w5 s5 => ?_) (fun _ _ _ _ _ _ z => z.elim)
    have s15 := s14.trans s5
    cases b with
    | true =>
      refine iteT (low_go w5 (l4.mono s5.ii) (h5.1 rfl) (fun z st6 u I6 H6 h6 w6 s6 i6 => ?_) (fun _ _ _ _ _ _ z => z.elim))
      obtain ⟨acc', st7, rfl, hl, hj'⟩ := h6
      obtain ⟨_, o, ho, io⟩ := w6.own D _ List.mem_cons_self
      cases io with
      | @lst _ ws hs =>
        obtain ⟨w7, s7⟩ := set_own (j := 0) (o' := .lst (ws ++ [u])) (ob' := .lst (acc' ++ [z])) w6 rfl (.lst (paired_app hs (.cons i6 .nil)))
        exact ⟨ws, ho, by rw [← paired_len hs]; exact hl, acc' ++ [z], st7, I6, hj', w7, (s15.trans s6).trans s7⟩
    | false =>
      refine iteF ?_
      obtain ⟨acc', st7, rfl, hj'⟩ := h5.2 rfl
      exact ⟨acc', st7, I5, hj', w5, s15⟩
  · rintro H' ⟨acc, st', I', hj, w', s'⟩
    obtain ⟨ds, ha, hok⟩ := je _ _ hj
    obtain ⟨_, o, ho, io⟩ := w'.own D _ List.mem_cons_self
    cases io with
    | lst hs =>
      obtain ⟨w9, s9, e9⟩ := pub_head w' ho s'
      exact c _ _ _ _ _ hok w9 s9 (.dat (.lst upd_same ((isDs_of ha hs).mono e9)))
theorem low_lc {it : DI} {g : DG} {tt : DT} {te : DE} {vs : List Nat} : ∀ σ H Q, low K (dLc it g tt te vs) W σ H Q → tLc (lowI K it W) (lowGw K vs g) (lowT K tt W0) (low K te W0) vs σ H Q := by
  rintro σ H Q ⟨Δ, st, I, ok, ex, wd, sl, h, c, cx⟩
  exact ⟨Δ, st, I, _, _, wd, sl, h, fun xs st1 I1 H1 J h1 w1 s1 k1 => lc_go w1 (sl.mono s1.ii) h1 k1 (c.go s1), cx⟩
end
end DD
namespace DD
open PySem PySem.Spec PyProof.Rows L2
structure KdB (x : Str) (k : Kd) : Prop where
  v : bootBuiltins x = some (.type k.nm)
theorem kb_int : KdB "int" .int := ⟨PyProof.Rows.boot_int⟩
theorem kb_bool : KdB "bool" .bl := ⟨PyProof.Rows.boot_bool⟩
theorem kb_str : KdB "str" .str := ⟨PyProof.Rows.boot_str⟩
theorem kb_list : KdB "list" .lst := ⟨PyProof.Rows.boot_list⟩
theorem kb_tuple : KdB "tuple" .tup := ⟨PyProof.Rows.boot_tuple⟩
section
variable {X : Cx} {W : WX} {a b c e o : Expr} {es : List Expr} {ta tb tc te : DE} {pos p p2 apos : Pos} {s : Stmt} {ss : List Stmt} {t u : DS}
/-- isinstance(e, T) -/
theorem disi (K : PySem.W.Frag) {k : Kd} {x : Str} (hm : X.mg "isinstance" = none) (hx : X.mg x = none) (hv : KdB x k) (he : PEd X W e te) (hg : Gl X "isinstance" := by rfl) (hgx : Gl X x := by rfl) (hn : x ≠ "__name__" := by decide) (hd : (x == ("__debug__" : Str)) = false := by decide)
    (h1 : starEach [e, .Name x p2] X.env = (false, eval e X.env) :: starEach [.Name x p2] X.env := by rfl) (hpl : (backTo pos (starEach [.Name x p2] X.env)).any (·.1) = false := by rfl) (hK : X.K = K := by rfl) : PEd X W (.Call (.Name "isinstance" p) [e, .Name x p2] [] pos) (dIsi K k te) := by
  subst hK
  exact PE.imp (pe_callB call_isi hg hm PyProof.Rows.boot_isinstance (pa_cons he (pa_cons (pe_bltn (v := .ty k.nm) hgx hx hv.v rfl hn hd) pa_nil) h1) (he := h1) (hpl := hpl)) low_isi
theorem dand {rest : List Expr} (ha : PEd X W a ta) (hb : PEd X W (.BoolOp .And (b :: rest) pos) tb) : PEd X W (.BoolOp .And (a :: b :: rest) pos) (dAnd ta tb) := PE.imp (pe_and ha hb) low_and
theorem done {op} (h : PEd X W a ta) : PEd X W (.BoolOp op [a] pos) ta := pe_one h
theorem dnot (h : PEd X W a ta) : PEd X W (.UnaryOp .Not a pos) (dNot ta) := PE.imp (pe_not h) low_not
theorem disN {j pos'} (h : PEd X W a ta) : PEd X W (.Compare a [.Is] [.Constant .none j pos'] pos) (dIsN ta) := PE.imp (pe_cmp (pc_isN h)) low_isN
theorem difx {tt : DT} (hc : PTd X W c tt) (ha : PEd X W a ta) (hb : PEd X W b tb) : PEd X W (.IfExp c a b pos) (dIf tt ta tb) := PE.imp (pe_ifExp hc ha hb) low_if
/-- tests -/
theorem tval (h : PEd X W e te) (he : ∀ whole, isTrue e X.env whole = (do let v ← whole; standAt e.pos; holding [v] (truthy v)) := by intro _; rfl) : PTd X W e (dTest te) := PT.imp (pt_val h he) lowT_B
theorem tisN {j pos'} (h : PEd X W a ta) : PTd X W (.Compare a [.Is] [.Constant .none j pos'] pos) (dTest (dIsN ta)) := PT.imp (pt_cmp (pc_isN h)) fun σ H Q h => by
  obtain ⟨Δ, st, I, ok, ex, wd, sl, h, c, cx⟩ := h
  refine low_isN _ _ _ ⟨Δ, st, I, _, ex, wd, sl, h, fun s st' v I' H' h' w' s' i' => ?_, cx⟩
  cases i' with
  | own p => exact h'.elim
  | dat hd =>
    cases hd with
    | bl k => exact ⟨k, rfl, c _ _ _ _ h' w' s'⟩
    | _ => exact h'.elim
theorem tnotN {j pos'} (h : PEd X W a ta) : PTd X W (.Compare a [.IsNot] [.Constant .none j pos'] pos) (dTest (dNotN ta)) := PT.imp (pt_cmp (pc_notN h)) fun σ H Q h => by
  obtain ⟨Δ, st, I, ok, ex, wd, sl, h, c, cx⟩ := h
  refine low_notN _ _ _ ⟨Δ, st, I, _, ex, wd, sl, h, fun s st' v I' H' h' w' s' i' => ?_, cx⟩
  cases i' with
  | own p => exact h'.elim
  | dat hd =>
    cases hd with
    | bl k => exact ⟨k, rfl, c _ _ _ _ h' w' s'⟩
    | _ => exact h'.elim
theorem tnot {tt : DT} (h : PTd X W a tt) : PTd X W (.UnaryOp .Not a pos) (dNotT tt) := PT.imp (pt_not h) lowT_not
abbrev PWd (X : Cx) (W : WX) (e : Expr) (t : DT) : Prop := PW X e (lowT X.K t W)
theorem wand1 {tt : DT} (h : PTd X W a tt) : PWd X W (.BoolOp .And [a] pos) tt := pw_and1 h
theorem wor1 {tt : DT} (h : PTd X W a tt) : PWd X W (.BoolOp .Or [a] pos) tt := pw_or1 h
theorem wand {tt uu : DT} {rest : List Expr} (h : PTd X W a tt) (h2 : PWd X W (.BoolOp .And (b :: rest) pos) uu) : PWd X W (.BoolOp .And (a :: b :: rest) pos) (dAndT tt uu) := ⟨fun wh pins s σ H Q J q => (pw_and h h2).run wh pins s σ H Q J (lowT_and _ _ _ q)⟩
theorem wor {tt uu : DT} {rest : List Expr} (h : PTd X W a tt) (h2 : PWd X W (.BoolOp .Or (b :: rest) pos) uu) : PWd X W (.BoolOp .Or (a :: b :: rest) pos) (dOrT tt uu) := ⟨fun wh pins s σ H Q J q => (pw_or h h2).run wh pins s σ H Q J (lowT_or _ _ _ q)⟩
theorem tw {tt : DT} (h : PWd X W a tt) : PTd X W a tt := h.pt
theorem tchain {op op' : CmpOp} {r r' : R2} {g g' : G2} (ho : OpR X (compareOp op) r) (ho' : OpR X (compareOp op') r') (hr : LR2 X.K r g) (hr' : LR2 X.K r' g') (ha : PEd X W a ta) (hb : PEd X W b tb) (hc : PEd X W c tc)
    (hm : lastMarks [op, op'] [b, c] = false := by with_unfolding_all rfl) : PTd X W (.Compare a [op, op'] [b, c] pos) (dTest (dChain g g' ta tb tc)) := PT.imp (pt_chain ho ho' ha hb hc hm) fun σ H Q h => by
  obtain ⟨Δ, st, I, ok, ex, wd, sl, h, c, cx⟩ := h
  refine low_chain hr hr' _ _ _ ⟨Δ, st, I, _, ex, wd, sl, h, fun s st' v I' H' h' w' s' i' => ?_, cx⟩
  cases i' with
  | own p => exact h'.elim
  | dat hd =>
    cases hd with
    | bl k => exact ⟨k, rfl, c _ _ _ _ h' w' s'⟩
    | _ => exact h'.elim
/-- fields, properties, instances -/
theorem dfld (K : PySem.W.Frag) {f : Str} (he : PEd X W e te) (hb : attributeBase e f X.env (eval e X.env) = eval e X.env := by rfl) (hK : X.K = K := by rfl) : PEd X W (.Attribute e f pos) (dFld K f te) := by
  subst hK
  exact PE.imp (pe_fld he hb) low_fld
theorem dprop {f : Str} {C q g : Addr} {k : Nat} {fd : FuncData} {ps : List Str} {ct : Ct} (c : Cls X.K C) (hp : PropOf X.K C f q g) (F : FnOk X.prog X.w X.K X.mg X.base (L2.CX X.prog X.w) k g fd ps (lowF X.K ct)) (hr : Room (k + 1) X.A) (hb : Binds X.K fd ps [])
    (he : PEd X W e te) (hab : attributeBase e f X.env (eval e X.env) = eval e X.env := by rfl) : PEd X W (.Attribute e f pos) (dProp C ct te) := PE.imp (pe_prop he c hp F hr hb .nil passL hab) low_prop
theorem ssetF (K : PySem.W.Frag) {f : Str} {p' : Pos} {tv to : DE} (hv : PEd X W e tv) (ho : PEd X W o to) (hs : swapsWith e (some (.Attribute o f p')) pos.line X.env = pure false := by rfl) (hK : X.K = K := by rfl) : PSd X W (.Assign [.Attribute o f p'] e pos) (dSetF K f tv to) := by
  subst hK
  exact PS.imp (ps_fld ho hv hs) lowS_setF
theorem dmake {ct : Ct} {k : Nat} {f C : Addr} {fd : FuncData} {ps : List Str} {x : Str} {dds : List Dt} {dvs : List V} {dus : List Value} {t : DA} (M : Mk X.K C f) (F : FnOk X.prog X.w X.K X.mg X.base (L2.CX X.prog X.w) k f fd ps (lowF X.K ct)) (hr : Room (k + 1) X.A) (hm : X.mg x = some (.ref C))
    (hb : Binds X.K fd ps dus) (hd : Vals dvs dus) (hdd : ∀ I, IsSs X.K I (dds.map Sv.dat) dvs) (tk : Takes X W) (ha : PAd X W (e :: es) t) (hg : Gl X x := by rfl) (hdb : (x == ("__debug__" : Str)) = false := by decide)
    (he : starEach (e :: es) X.env = (false, eval e X.env) :: starEach es X.env := by rfl) (hpl : (backTo pos (starEach es X.env)).any (·.1) = false := by rfl) : PEd X W (.Call (.Name x p) (e :: es) [] pos) (dMake C ct dds t) :=
  PE.imp (pe_makeAt M F hr hm hb hd (fun σ => passAt tk σ) ha hg hdb he hpl) (low_make hdd)
abbrev PGw (X : Cx) (vs : List Nat) (e : Expr) (g : DG) : Prop := PG X e (lowGw X.K vs g)
theorem gwname (i : Nat) {vs : List Nat} {x : Str} (hN : X.N.Nodup) (hv : i ∈ vs := by decide) (hi : X.N[i]? = some x := by rfl) (hx : Loc X.env.scope x := by first | exact Or.inl rfl | exact Or.inr rfl) (hf : X.fn x = true ∨ X.env.scope.names.lookup x = some .local := by first | exact .inl rfl | exact .inr rfl | assumption) : PGw X vs (.Name x pos) (dgName i) :=
  ⟨fun pins s σ H v u Q I r h => (pg_name hN hi hx hf).run pins s σ H v u Q I r (lowGw_name hv _ _ _ _ h)⟩
abbrev PId (X : Cx) (W : WX) (tg e : Expr) (t : DI) : Prop := PI X tg e (lowI X.K t W)
theorem iL {tg : Expr} (h : PEd X W e te) : PId X W tg e (dItL te) := PI.imp (pi_list h) low_itL
theorem iT {tg : Expr} (h : PEd X W e te) : PId X W tg e (dItT te) := PI.imp (pi_tup h) low_itT
theorem iS {tg : Expr} (h : PEd X W e te) : PId X W tg e (dItS te) := PI.imp (pi_str h) low_itS
theorem iR {tg : Expr} {t : DA} (hm : X.mg "range" = none) (h : PAd X W [a] t) (hg : Gl X "range" := by rfl) (hs : starEach [a] X.env = [(false, eval a X.env)] := by rfl) : PId X W tg (.Call (.Name "range" p) [a] [] pos) (dItR t) := PI.imp (pi_range1 hg hm h hs) low_itR
theorem sfor {tg iter : Expr} {g : DG} {it : DI} (hp : PassesOwn (model X.prog X.w) X.A X.env X.xe) (hi : PId X W tg iter it) (hg : PGd X tg g) (hb : PBd X W ss t) (hc : X.calm = true := by rfl)
    (hs : ∀ x, foldedSetIterable iter X.env x = pure x := by intro _; rfl) : PSd X W (.For tg iter ss [] pos) (dFor it g t) := PS.imp (ps_for hp hc hi hg hb hs) lowS_for
abbrev PTsd (X : Cx) (ifs : List Expr) (t : DT) : Prop := PTs X ifs (lowT X.K t W0)
theorem tsnil : PTsd X [] dYes := ⟨fun pins s σ H Q I h => pts_nil.run pins s σ H Q I (by
  obtain ⟨Δ, st, I, ok, ex, wd, sl, h, c, cx⟩ := h
  exact c _ _ _ _ h wd (Stp.refl _ _ _))⟩
theorem tsone {tt : DT} (h : PTd X W0 c tt) : PTsd X [c] tt := pts_one h
theorem dlc {elt tg iter : Expr} {ifs : List Expr} {scope : Scope} (own : List (Str × Nat)) {it : DI} {g : DG} {tt : DT} (hN : X.N.Nodup) (hi : PId X W tg iter it) (ok : BlkOk X.N X.env.scope scope own)
    (hg : ∀ (s : Shared) (H : Hp) (C : Addr) (cl : List (Str × Addr)) (fp : List Addr), PGw (X.blk s H scope (compEnvC scope cl C X.env) fp) (own.map (·.2)) tg g) (ht : ∀ (s : Shared) (H : Hp) (C : Addr) (cl : List (Str × Addr)) (fp : List Addr), PTsd (X.blk s H scope (compEnvC scope cl C X.env) fp) ifs tt)
    (he : ∀ (s : Shared) (H : Hp) (C : Addr) (cl : List (Str × Addr)) (fp : List Addr), PEd (X.blk s H scope (compEnvC scope cl C X.env) fp) W0 elt te) (hc : X.calm = true := by rfl) (hs : ∀ x, foldedSetIterable iter X.env x = pure x := by intro _; rfl) :
    PEd X W (.ListComp elt [⟨tg, iter, ifs, 0⟩] scope pos) (dLc it g tt te (own.map (·.2))) := PE.imp (pe_lc hc hN hi ok hg ht he hs) low_lc
end
end DD
namespace DD
open PySem PySem.Spec PyProof.Rows L2
/-- raise X('..'): no fields -/
def dRaise0 (C : Addr) : DS := fun Δ st N => N.ex ⟨C, []⟩ Δ st
/-- raise X(e): one field -/
def dRaise1 (C : Addr) (f : Str) (ta : DA) : DS := fun Δ st N => ta Δ st (fun xs st1 => match xs with
  | [.dat d] => N.ex ⟨C, [(f, d)]⟩ Δ st1
  | _ => False) (exAt N Δ)
/-- what an exception's __init__ with one store promises -/
def spX1 (f : Str) (C : Addr) : Sp := fun vs H Q _ => ∃ a v, vs = [.ref a, v] ∧ H a = some (exo a C none) ∧ ∀ dx, H dx = none → dx ≠ a → Q .non (upd (upd H dx (exd dx [(f, v)])) a (exo a C (some dx)))
section
variable {K : PySem.W.Frag} {W : WX} {st : Store} {I H : Hp}
theorem lowS_raise0 {C : Addr} : ∀ D σ H, lowS K (dRaise0 C) W D σ H → W (.ref C) none σ H := by
  rintro D σ H ⟨Δ, st, I, N, wd, sl, h, e⟩
  exact e.ex _ _ _ _ _ _ _ _ h wd (Stp.refl _ _ _) sl ⟨rfl, .inl ⟨rfl, rfl⟩⟩
theorem lowS_raise1 {C : Addr} {f : Str} {ta : DA} : ∀ D σ H, lowS K (dRaise1 C f ta) W D σ H → tMkO C (spX1 f C) [] (lowA K ta W) σ H fun cls d H' => W cls d σ H' := by
  rintro D σ H ⟨Δ, st, I, N, wd, sl, h, e⟩
  refine lowA_go wd sl h (fun xs st1 vs I1 H1 h1 w1 s1 i1 => ?_) (cx_of sl e)
  split at h1
  · rename_i d
    obtain ⟨v, rfl, iv⟩ := one_of rfl i1
    refine ⟨by show 1 ≤ 1000; decide, fun a ha => ⟨a, v, rfl, upd_same, fun dx hdx ne => ⟨rfl, dx, _, upd_same, by rw [upd_ne ne, upd_same], ?_, ?_⟩⟩⟩
    · rwa [upd_ne ne] at hdx
    · rw [upd_ne ne] at hdx
      have he : upd (del (upd (upd (upd H1 a (exo a C none)) dx (exd dx [(f, v)])) a (exo a C (some dx))) a) dx (.xd [(f, v)]) = upd H1 dx (.xd [(f, v)]) := by
        funext b
        by_cases z : b = dx
        · rw [z, upd_same, upd_same]
        · rw [upd_ne z, upd_ne z]
          by_cases z2 : b = a
          · rw [z2, del_same, ha]
          · rw [del_ne z2, upd_ne z2, upd_ne z, upd_ne z2]
      rw [he]
      obtain ⟨w2, s2⟩ := new_known (o := .xd [(f, v)]) w1 hdx
      have ix : Ex I1 (upd I1 dx (.xd [(f, v)])) := Ex.new (w1.sub.none hdx)
      cases iv with
      | dat hd => exact e.ex _ _ _ _ _ _ _ _ h1 w2 (s1.trans s2) (sl.mono (s1.ii.trans ix)) ⟨rfl, .inr ⟨List.cons_ne_nil _ _, dx, _, rfl, upd_same, .cons (hd.mono ix) .nil⟩⟩
  · exact h1.elim
end
section
variable {X : Cx} {W : WX} {e o : Expr} {es : List Expr} {te to : DE} {pos p p2 pos2 : Pos}
theorem sraise0 {C : Addr} {x m : Str} {j : Nat} {bmB : List Value} {B newId initId : String} (F : ExcBaseFacts B newId initId bmB) (q : PySem.W.excIn X.K C bmB newId = true) (gC : X.mg x = some (.ref C)) (kC : PySem.W.keepIn X.K (.ref C) = true) (r : Raises X (.ref C)) (tk : Takes X W)
    (hc : X.calm = true := by rfl) (hg : Gl X x := by rfl) (hdb : (x == ("__debug__" : Str)) = false := by decide) : PSd X W (.Raise (some (.Call (.Name x p) [.Constant (.str m) j p2] [] pos)) none pos2) (dRaise0 C) :=
  PS.imp (ps_raise hc tk (pmk_own F q gC kC r hg hdb)) lowS_raise0
theorem sraise1 {C fI : Addr} {x f : Str} {k : Nat} {fd : FuncData} {ps : List Str} {ta : DA} (T : OexC X.K C) (iC : PySem.W.findIn X.K (.ref C) "__init__" = some (some (.ref fI))) (tI : PySem.W.typeIn X.K (.ref fI) = some (.type "function"))
    (F1 : FnOk X.prog X.w X.K X.mg X.base CX0 k fI fd ps (spX1 f C)) (hr : Room (k + 1) X.A) (hb : Binds X.K fd ps []) (hm : X.mg x = some (.ref C)) (tk : Takes X W) (ha : PAd X W (e :: es) ta) (hc : X.calm = true := by rfl) (hg : Gl X x := by rfl)
    (hdb : (x == ("__debug__" : Str)) = false := by decide) (he : starEach (e :: es) X.env = (false, eval e X.env) :: starEach es X.env := by rfl) (hpl : (backTo pos (starEach es X.env)).any (·.1) = false := by rfl) :
    PSd X W (.Raise (some (.Call (.Name x p) (e :: es) [] pos)) none pos2) (dRaise1 C f ta) :=
  PS.imp (ps_raise hc tk (pmk_oex T iC tI F1 hr hb .nil (fun _ _ _ _ _ _ _ h => h.elim) hg hm ha hdb he hpl)) fun D σ H h => lowS_raise1 D σ H h
end
/-- such an __init__ -/
theorem ok_x1 {P : Program} {w : World} {K : PySem.W.Frag} {mg : Str → Option Value} {base : Heap} {qual : Str} {st : Stmt} {fI C : Addr} {fd : FuncData} {x f : Str} (F : Fun K "__init__" qual st fI fd) (S : FnScope ["self", x] ["self", x] (defScope st)) (T : OexC K C) (hno : PySem.W.findIn K (.ref C) f = some none)
    (hd : ∀ (cdv : Value) (A : Around) (outer : List Env) (s : Shared) (H : Hp) (E : XK), PSs (cxOf CX0 P w K mg base ["self", x] qual (defScope st) fI cdv A outer s H E).nox (defBody st) (tOst K f (tVar 0) (tVar 1))) : FnOk P w K mg base CX0 1 fI fd ["self", x] (spX1 f C) := by
  refine F.ok S (fun vs H Q E h => ?_) (fun cdv A outer s H vs Q E hr h => ?_)
  · obtain ⟨a, v, rfl, _⟩ := h
    rfl
  · obtain ⟨a, v, rfl, ha, k⟩ := h
    exact ⟨_, hd cdv A outer s H E, v, rfl, .ref a, rfl, a, C, rfl, T, hno, .inl ⟨ha, k⟩⟩
/-- the suite's wishes: nothing is raised there -/
def calmN (N : DN) : DN := { N with ex := fun _ _ _ => False }
theorem ends_calm {K : PySem.W.Frag} {W W' : WX} {st : Store} {I H : Hp} {N : DN} {D : Ends} (e : Ends_ K st I H N W D) : Ends_ K st I H (calmN N) W' D := ⟨e.nx, e.rt, e.bk, e.ct, fun _ _ _ _ _ _ _ _ z => z.elim⟩
def tMethAt (C : Addr) (m : Str) (sp : Sp) (dvs : List V) (E : L2.St → XK) (ta : TE) (t : TA) : TE := fun σ H Q => ta σ H fun x H1 => ∃ a dx fs, x = .ref a ∧ H1 a = some (.ins C dx fs) ∧ fs.lookup m = none ∧ t σ H1 fun vs H2 => sp (x :: (vs ++ dvs)) H2 Q (E σ)
section
variable {X : Cx} {CX : CXT} {k : Nat} {f C : Addr} {fd : FuncData} {ps : List Str} {sp : Sp} {dvs : List V} {dus : List Value} {E : L2.St → XK} {x m : Str} {p apos pos : Pos} {e o : Expr} {es : List Expr} {ta : TE} {t : TA}
theorem pe_methAt {pl : Sem Bool} (he : PE X o ta) (c : Cls X.K C) (hm : Meth X.K C m f) (F : FnOk X.prog X.w X.K X.mg X.base CX k f fd ps sp) (hr : Room k X.A) (hb : Binds X.K fd ps dus) (hd : Vals dvs dus) (hx : ∀ σ, PassesAt CX X σ (E σ)) (ha : PA X (e :: es) t)
    (hst : starEach (e :: es) X.env = (false, eval e X.env) :: starEach es X.env := by rfl) (hpl : (backTo pos (starEach es X.env)).any (·.1) = false := by rfl)
    (ht : eval (.Call (.Attribute o m apos) (e :: es) [] pos) X.env = (do
      let ov ← eval o X.env
      standAt apos.atName
      let (f, first) ← holding [ov] (getMethod ov m pl)
      callWith pos f first (backTo pos (starEach (e :: es) X.env)) (backToKw pos (keywordEach [] X.env))) := by rfl) :
    PE X (.Call (.Attribute o m apos) (e :: es) [] pos) (tMethAt C m sp dvs E ta t) := by
  constructor
  intro pins s σ H Q I h
  apply PySem.W.methodCall_KW (pl := pl) _ ht
  apply thn (he.run pins s σ H _ I h)
  rintro u s1 ⟨y, H1, I1, ry, a, dx, fs, ey, ea, l, q⟩
  subst ey
  have eu : u = Value.ref a := ry
  subst eu
  apply getmeth_ok I1 ea c hm l
  apply PySem.W.callWith_K (first := [.ref a]) (h₀ := X.base) I.ok.mod.kin hm.kp _ hst hpl
  apply thn (ha.run pos pins s1 σ H1 _ I1 q)
  rintro us s2 ⟨vs, H2, I2, r, q2⟩
  exact ⟨I2.kIn, run_fnSD (us := .ref a :: us) (vs := .ref a :: vs) F hr hb hd (hx σ) I2 (.cons rfl r) q2⟩
end
def dMeth (C : Addr) (m : Str) (ct : Ct) (dds : List Dt) (te : DE) (t : DA) : DE := fun Δ st ok ex => te Δ st (fun s st1 => match s with
  | .dat (.ins D fs) => D = C ∧ fs.lookup m = none ∧ t Δ st1 (fun xs st2 => ct (.dat (.ins D fs) :: (xs ++ dds.map Sv.dat)) st2 ok ex) ex
  | .own p => (∃ (j : Nat) (fs : List (Str × Sv)), st1[j]? = some (p, Ob.ins C fs) ∧ fs.lookup m = none) ∧ t Δ st1 (fun xs st2 => ct (.own p :: (xs ++ dds.map Sv.dat)) st2 ok ex) ex
  | _ => False) ex
theorem isDf_none {K : PySem.W.Frag} {I : Hp} {f : Str} : ∀ {ds : List (Str × Dt)} {vs : List (Str × V)}, IsDf K I ds vs → ds.lookup f = none → vs.lookup f = none
  | _, _, .nil, _ => rfl
  | _, _, .cons (k := k) a r, h => by
    rw [List.lookup_cons] at h ⊢
    cases e : f == k with
    | true => rw [e] at h; cases h
    | false => rw [e] at h; exact isDf_none r h
theorem rk_none {K : PySem.W.Frag} {I : Hp} {f : Str} : ∀ {ds : List (Str × Sv)} {vs : List (Str × V)}, Paired (RK K I) ds vs → ds.lookup f = none → vs.lookup f = none
  | _, _, .nil, _ => rfl
  | _, _, .cons (a := (k, s)) (b := (k', v)) a r, h => by
    obtain ⟨e1, e2⟩ := a
    have e1 : k = k' := e1
    subst e1
    rw [List.lookup_cons] at h ⊢
    cases e : f == k with
    | true => rw [e] at h; cases h
    | false => rw [e] at h; exact rk_none r h
theorem low_meth {K : PySem.W.Frag} {W : WX} {C : Addr} {m : Str} {ct : Ct} {dds : List Dt} {dvs : List V} {te : DE} {t : DA} (hd : ∀ I, IsSs K I (dds.map Sv.dat) dvs) : ∀ σ H Q, low K (dMeth C m ct dds te t) W σ H Q → tMethAt C m (lowF K ct) dvs (WE W) (low K te W) (lowA K t W) σ H Q := by
  rintro σ H Q ⟨Δ, st, I, ok, ex, wd, sl, h, c, cx⟩
  refine low_go wd sl h (fun x st1 v I1 H1 h1 w1 s1 i1 => ?_) cx
  cases i1 with
  | own p =>
    obtain ⟨⟨j, fs, hj, hl⟩, h1⟩ := h1
    obtain ⟨u, hu, io⟩ := own_at w1 hj
    cases io with
    | ins hs =>
      refine ⟨p, _, _, rfl, hu, rk_none hs hl, lowA_go w1 (sl.mono s1.ii) h1 (fun xs st2 vs I2 H2 h2 w2 s2 i2 => ?_) (cx.go s1)⟩
      exact ⟨_, st2, I2, ok, ex, w2, .cons (.own p) (paired_app i2 (hd I2)), h2, c.go (s1.trans s2), cx.go (s1.trans s2)⟩
  | dat hd' =>
    cases hd' with
    | ins a b =>
      obtain ⟨rfl, hl, h1⟩ := h1
      refine ⟨_, _, _, rfl, w1.sub.at a (by intro k z; cases z) (by intro k z; cases z), isDf_none b hl, lowA_go w1 (sl.mono s1.ii) h1 (fun xs st2 vs I2 H2 h2 w2 s2 i2 => ?_) (cx.go s1)⟩
      exact ⟨_, st2, I2, ok, ex, w2, .cons (.dat ((IsD.ins a b).mono s2.ii)) (paired_app i2 (hd I2)), h2, c.go (s1.trans s2), cx.go (s1.trans s2)⟩
    | _ => exact h1.elim
theorem dmeth {X : Cx} {W : WX} {te : DE} {pos apos : Pos} {e o : Expr} {es : List Expr} {ct : Ct} {k : Nat} {f C : Addr} {fd : FuncData} {ps : List Str} {m : Str} {dds : List Dt} {dvs : List V} {dus : List Value} {t : DA} {pl : Sem Bool} (c : Cls X.K C) (hm : Meth X.K C m f)
    (F : FnOk X.prog X.w X.K X.mg X.base (L2.CX X.prog X.w) k f fd ps (lowF X.K ct)) (hr : Room k X.A) (hb : Binds X.K fd ps dus) (hd : Vals dvs dus) (hdd : ∀ I, IsSs X.K I (dds.map Sv.dat) dvs) (tk : Takes X W) (he : PEd X W o te) (ha : PAd X W (e :: es) t)
    (hst : starEach (e :: es) X.env = (false, eval e X.env) :: starEach es X.env := by rfl) (hpl : (backTo pos (starEach es X.env)).any (·.1) = false := by rfl)
    (ht : eval (.Call (.Attribute o m apos) (e :: es) [] pos) X.env = (do
      let ov ← eval o X.env
      standAt apos.atName
      let (f, first) ← holding [ov] (getMethod ov m pl)
      callWith pos f first (backTo pos (starEach (e :: es) X.env)) (backToKw pos (keywordEach [] X.env))) := by rfl) :
    PEd X W (.Call (.Attribute o m apos) (e :: es) [] pos) (dMeth C m ct dds te t) := PE.imp (pe_methAt he c hm F hr hb hd (fun σ => passAt tk σ) ha hst hpl ht) (low_meth hdd)
/-- x[i] by one's own __getitem__ -/
def tGetAt (C : Addr) (sp : Sp) (E : L2.St → XK) (ta tb : TE) : TE := fun σ H Q => ta σ H fun x H1 => tb σ H1 fun y H2 => ∃ a dx fs, x = .ref a ∧ H2 a = some (.ins C dx fs) ∧ sp [x, y] H2 Q (E σ)
theorem pe_getAt {X : Cx} {CX : CXT} {k : Nat} {f C : Addr} {fd : FuncData} {ps : List Str} {sp : Sp} {E : L2.St → XK} {pos : Pos} {a b : Expr} {ta tb : TE} (ha : PE X a ta) (hb : PE X b tb) (hs : PySem.W.findIn X.K (.ref C) "__getitem__" = some (some (.ref f))) (hfi : PySem.W.fnIn X.K f = true) (hfn : PySem.W.isFn X.K (.ref f) = true)
    (F : FnOk X.prog X.w X.K X.mg X.base CX k f fd ps sp) (hr : Room (k + 1) X.A) (bb : Binds X.K fd ps []) (hx : ∀ σ, PassesAt CX X σ (E σ)) (hsl : ∀ x i, subscripted b true x i = runValue (.builtin "lifetime.subscript" ⟨[x, i], []⟩) := by with_unfolding_all exact fun _ _ => rfl) :
    PE X (.Subscript a b pos) (tGetAt C sp E ta tb) := by
  constructor
  intro pins s σ H Q I h
  apply Subscript_
  apply binT ha hb I (R := fun x y H2 => ∃ a dx fs, x = .ref a ∧ H2 a = some (.ins C dx fs) ∧ sp [x, y] H2 Q (E σ)) h
  rintro v u s2 x y H2 I2 rx ry ⟨c, dx, fs, ex, ec, q⟩
  subst ex
  have ev : v = Value.ref c := rx
  subst ev
  obtain ⟨mA, O, _⟩ := ins_get I2.hok ec
  obtain ⟨od, J, _⟩ := O.look
  obtain ⟨m, fr⟩ := I2.fr
  refine PySem.W.sub_K fr I.ok.mod.kin J hs hfi hfn ?_ (hsl _ _)
  apply wpAny_call
  have len : ([Value.ref c, u] ++ []).length = ps.length := by rw [← F.len _ _ _ _ q]; rfl
  apply codeAny_mono (F.run X.A.in1 X.stack s2 H2 ⟨[.ref c, u], []⟩ ([.ref c, u] ++ []) [.ref c, y] Q (E σ) hr.in1 I2.env0.in1 (bb _ [.ref c, u] I2.kIn len) (.cons rfl (.cons ry .nil)) q)
  intro res s3 hres
  match res, hres with
  | .error er, z => exact hx σ pins _ _ er s3 I2 z
  | .ok (.ret w'), z => exact I2.after z
  | .ok .next, z => exact False.elim z
  | .ok .brk, z => exact False.elim z
  | .ok .cont, z => exact False.elim z
def dGet (C : Addr) (ct : Ct) (ta tb : DE) : DE := fun Δ st ok ex => ta Δ st (fun x st1 => tb Δ st1 (fun y st2 => match x with
  | .dat (.ins D fs) => D = C ∧ ct [.dat (.ins D fs), y] st2 ok ex
  | _ => False) ex) ex
theorem low_get {K : PySem.W.Frag} {W : WX} {C : Addr} {ct : Ct} {ta tb : DE} : ∀ σ H Q, low K (dGet C ct ta tb) W σ H Q → tGetAt C (lowF K ct) (WE W) (low K ta W) (low K tb W) σ H Q := by
  rintro σ H Q ⟨Δ, st, I, ok, ex, wd, sl, h, c, cx⟩
  refine low_go wd sl h (fun x st1 v I1 H1 h1 w1 s1 i1 => ?_) cx
  refine low_go w1 (sl.mono s1.ii) h1 (fun y st2 u I2 H2 h2 w2 s2 i2 => ?_) (cx.go s1)
  cases i1 with
  | own p => exact h2.elim
  | dat hd =>
    cases hd with
    | ins a b =>
      obtain ⟨rfl, h2⟩ := h2
      have a2 := s2.ii _ _ a
      exact ⟨_, _, _, rfl, w2.sub.at a2 (by intro k z; cases z) (by intro k z; cases z), _, st2, I2, ok, ex, w2, .cons (.dat ((IsD.ins a b).mono s2.ii)) (.cons i2 .nil), h2, c.go (s1.trans s2), cx.go (s1.trans s2)⟩
    | _ => exact h2.elim
theorem dget {X : Cx} {W : WX} {ct : Ct} {k : Nat} {f C : Addr} {fd : FuncData} {ps : List Str} {pos : Pos} {a b : Expr} {ta tb : DE} (hs : PySem.W.findIn X.K (.ref C) "__getitem__" = some (some (.ref f))) (hfi : PySem.W.fnIn X.K f = true) (hfn : PySem.W.isFn X.K (.ref f) = true)
    (F : FnOk X.prog X.w X.K X.mg X.base (L2.CX X.prog X.w) k f fd ps (lowF X.K ct)) (hr : Room (k + 1) X.A) (bb : Binds X.K fd ps []) (tk : Takes X W) (ha : PEd X W a ta) (hb : PEd X W b tb) (hsl : ∀ x i, subscripted b true x i = runValue (.builtin "lifetime.subscript" ⟨[x, i], []⟩) := by with_unfolding_all exact fun _ _ => rfl) :
    PEd X W (.Subscript a b pos) (dGet C ct ta tb) := PE.imp (pe_getAt ha hb hs hfi hfn F hr bb (fun σ => passAt tk σ) hsl) low_get
end DD
namespace DD
open PySem PySem.Spec PyProof.Rows L2
theorem fn_lowD {P : Program} {w : World} {K : PySem.W.Frag} {mg : Str → Option Value} {base : Heap} {x qual : Str} {st : Stmt} {f : Addr} {fd : FuncData} {N ps : List Str} {k : Nat} {ct : Ct} {dvs : List V} (t : DS) (F : FunD K x qual (defArgs st) (defBody st) (defScope st) dvs [] f fd) (S : FnScope N ps (defScope st)) (len : ∀ ss st ok ex, ct ss st ok ex → ss.length = ps.length)
    (hsem : ∀ ss st ok ex, ct ss st ok ex → t (ss ++ List.replicate (N.length - ss.length) .un) st (endsOf ok ex))
    (hbody : ∀ (cdv : Value) (A : Around) (outer : List Env) (s : Shared) (H : Hp) (E : XK), Room k (A.deeper (envOfC qual (defScope st) s.heap.objs.size f cdv)) → Takes (cxD P w K mg base N qual (defScope st) f cdv A outer s H E) (WF E) →
      PassesOwn (model P w) (cxD P w K mg base N qual (defScope st) f cdv A outer s H E).A (cxD P w K mg base N qual (defScope st) f cdv A outer s H E).env (cxD P w K mg base N qual (defScope st) f cdv A outer s H E).xe →
      PBd (cxD P w K mg base N qual (defScope st) f cdv A outer s H E) (WF E) (defBody st) t) :
    FnOk P w K mg base (L2.CX P w) (k + 1) f fd ps (lowF K ct) := by
  refine F.ok S (fun vs H Q E h => ?_) (fun cdv A outer s H vs Q E hr h => ?_)
  · obtain ⟨ss, st, I, ok, ex, wd, iv, h, _⟩ := h
    rw [← paired_len iv]
    exact len _ _ _ _ h
  · obtain ⟨ss, st0, I, ok, ex, wd, iv, h, c, cx⟩ := h
    refine ⟨_, hbody cdv A outer s H E hr (takes_of rfl rfl rfl rfl) (passes_of rfl), ?_⟩
    refine lowS_go wd (sl_start iv) (hsem _ _ _ _ h) ⟨?_, ?_, ?_, ?_, ?_⟩
    · rintro Δ st' σ' I' H' ⟨st'', hs, h'⟩ w' s' l'
      exact c _ _ _ _ _ h' (wd_drop w' hs) (stp_drop s' hs) (.dat .non)
    · rintro s st' v I' H' ⟨s', st'', hf, h'⟩ w' sp i'
      obtain ⟨I2, w2, s2, i2⟩ := fin_ok w' sp i' hf
      exact c _ _ _ _ _ h' w2 s2 i2
    · intro _ _ _ _ _ h'
      exact h'.elim
    · intro _ _ _ _ _ h'
      exact h'.elim
    · rintro x Δ' st' cls d σ' I' H' ⟨st'', hs, h'⟩ w' sp l' xi
      exact cx x st'' cls d I' H' h' (wd_drop w' hs) (stp_drop sp hs) xi
mutual
inductive PyOf : Dt → PyData → Prop
  | non : PyOf .non .none
  | bl (b : Bool) : PyOf (.bl b) (.bool b)
  | int (i : Int) : PyOf (.int i) (.int i)
  | str (x : Str) : PyOf (.str x) (.str x)
  | lst {ds : List Dt} {ps : List PyData} : PyOfs ds ps → PyOf (.lst ds) (.list ps)
  | tup {ds : List Dt} {ps : List PyData} : PyOfs ds ps → PyOf (.tup ds) (.tuple ps)
inductive PyOfs : List Dt → List PyData → Prop
  | nil : PyOfs [] []
  | cons {d : Dt} {p : PyData} {ds : List Dt} {ps : List PyData} : PyOf d p → PyOfs ds ps → PyOfs (d :: ds) (p :: ps)
end
mutual
theorem PyOf.dp {K : PySem.W.Frag} {st : Store} {I H : Hp} (w : Wd K st I H) : ∀ {d : Dt} {p : PyData} {v : V}, PyOf d p → IsD K I d v → Dp K H v p
  | _, _, _, .non, .non => .non
  | _, _, _, .bl b, .bl _ => .bl b
  | _, _, _, .int i, .int _ => .int i
  | _, _, _, .str x, .str _ => .str x
  | _, _, _, .lst h, .lst a b => .lst (w.sub.sl (.inl (.inl a))) (PyOfs.dp w h b)
  | _, _, _, .tup h, .tup a b => .tup (w.sub.st a.st) (PyOfs.dp w h b)
theorem PyOfs.dp {K : PySem.W.Frag} {st : Store} {I H : Hp} (w : Wd K st I H) : ∀ {ds : List Dt} {ps : List PyData} {vs : List V}, PyOfs ds ps → IsDs K I ds vs → DpAll K H vs ps
  | _, _, _, .nil, .nil => .nil
  | _, _, _, .cons a b, .cons c d => .cons (PyOf.dp w a c) (PyOfs.dp w b d)
end
theorem PyOfs.map {α : Type} {f : α → Dt} {g : α → PyData} (h : ∀ a, PyOf (f a) (g a)) : ∀ xs : List α, PyOfs (xs.map f) (xs.map g)
  | [] => .nil
  | a :: xs => .cons (h a) (PyOfs.map h xs)
def gEqP (neg : Bool) : G2 := fun x y st ok => match x, y with
  | .dat d, .dat e => ∃ p q, PyOf d p ∧ PyOf e q ∧ SeqAt.shaped p = true ∧ SeqAt.shaped q = true ∧ ok (.dat (.bl (if neg then !PyData.eqv p q else PyData.eqv p q))) st
  | _, _ => False
theorem lr_neP {K : PySem.W.Frag} : LR2 K (rNeD K) (gEqP true) := by
  intro x y st I H ok Q v w wd ix iy h c
  cases ix with
  | own p => exact h.elim
  | dat hx =>
    cases iy with
    | own p => exact h.elim
    | dat hy =>
      obtain ⟨p, q, h1, h2, h3, h4, h⟩ := h
      exact ⟨p, q, h1.dp wd hx, h2.dp wd hy, h3, h4, c.now wd h (.dat (.bl _))⟩
/-- x in a tuple | list of data -/
def rInP (K : PySem.W.Frag) (neg : Bool) : R2 := fun x y H Q => ∃ d ds, Dp K H x d ∧ (Dp K H y (.tuple ds) ∨ Dp K H y (.list ds)) ∧ SeqAt.shaped d = true ∧ (PyData.canLayAll0 ds = true) ∧ Q (.bl (if neg then !ds.any fun z => PyData.eqv z d else ds.any fun z => PyData.eqv z d)) H
theorem op_inP {X : Cx} (hu : X.A.units + 65 < cLine) : OpR X (compareOp .In) (rInP X.K false) := by
  intro pins s σ H x y v u Q I rx ry h
  obtain ⟨d, ds, hd, he, sd, se, q⟩ := h
  obtain ⟨as, r1⟩ := Dp.reads I d x v hd rx
  have room : X.A.units + 1 + min (PyData.depthAll ds) d.depth < cLine := by
    have l1 := SeqAt.depth_of_shaped sd
    have l2 : min (PyData.depthAll ds) d.depth ≤ d.depth := Nat.min_le_right _ _
    omega
  rcases he with he | he
  · obtain ⟨bs, r2⟩ := Dp.reads I (.tuple ds) y u he ry
    exact SeqAt.in_tuple_reads r2 r1 se (SeqAt.canLay_of_shaped sd) room ⟨.bl _, H, I, rfl, q⟩
  · obtain ⟨bs, r2⟩ := Dp.reads I (.list ds) y u he ry
    exact SeqAt.in_list_reads r2 r1 se (SeqAt.canLay_of_shaped sd) room ⟨.bl _, H, I, rfl, q⟩
theorem op_niP {X : Cx} (hu : X.A.units + 65 < cLine) : OpR X (compareOp .NotIn) (rInP X.K true) := by
  intro pins s σ H x y v u Q I rx ry h
  obtain ⟨d, ds, hd, he, sd, se, q⟩ := h
  obtain ⟨as, r1⟩ := Dp.reads I d x v hd rx
  have room : X.A.units + 1 + min (PyData.depthAll ds) d.depth < cLine := by
    have l1 := SeqAt.depth_of_shaped sd
    have l2 : min (PyData.depthAll ds) d.depth ≤ d.depth := Nat.min_le_right _ _
    omega
  rcases he with he | he
  · obtain ⟨bs, r2⟩ := Dp.reads I (.tuple ds) y u he ry
    exact SeqAt.notIn_tuple_reads r2 r1 se (SeqAt.canLay_of_shaped sd) room ⟨.bl _, H, I, rfl, q⟩
  · obtain ⟨bs, r2⟩ := Dp.reads I (.list ds) y u he ry
    exact SeqAt.notIn_list_reads r2 r1 se (SeqAt.canLay_of_shaped sd) room ⟨.bl _, H, I, rfl, q⟩
def gInP (neg : Bool) : G2 := fun x y st ok => match x, y with
  | .dat d, .dat (.tup es) => ∃ p qs, PyOf d p ∧ PyOfs es qs ∧ SeqAt.shaped p = true ∧ PyData.canLayAll0 qs = true ∧ ok (.dat (.bl (if neg then !qs.any fun z => PyData.eqv z p else qs.any fun z => PyData.eqv z p))) st
  | .dat d, .dat (.ktu es) => ∃ p qs, PyOf d p ∧ PyOfs es qs ∧ SeqAt.shaped p = true ∧ PyData.canLayAll0 qs = true ∧ ok (.dat (.bl (if neg then !qs.any fun z => PyData.eqv z p else qs.any fun z => PyData.eqv z p))) st
  | .dat d, .dat (.lst es) => ∃ p qs, PyOf d p ∧ PyOfs es qs ∧ SeqAt.shaped p = true ∧ PyData.canLayAll0 qs = true ∧ ok (.dat (.bl (if neg then !qs.any fun z => PyData.eqv z p else qs.any fun z => PyData.eqv z p))) st
  | .dat d, .own a => ∃ (j : Nat) (ys : List Sv) (es : List Dt) (p : PyData) (qs : List PyData), st[j]? = some (a, Ob.lst ys) ∧ AllD ys es ∧ PyOf d p ∧ PyOfs es qs ∧ SeqAt.shaped p = true ∧ PyData.canLayAll0 qs = true ∧ ok (.dat (.bl (if neg then !qs.any fun z => PyData.eqv z p else qs.any fun z => PyData.eqv z p))) st
  | _, _ => False
theorem lr_inP {K : PySem.W.Frag} {neg : Bool} : LR2 K (rInP K neg) (gInP neg) := by
  intro x y st I H ok Q v w wd ix iy h c
  cases ix with
  | own p => cases iy with
    | own q => exact h.elim
    | dat hy => cases hy <;> exact h.elim
  | dat hx =>
    cases iy with
    | own a =>
      obtain ⟨j, ys, es, p, qs, hj, ha, h1, h2, h3, h4, h⟩ := h
      obtain ⟨o, ho, io⟩ := own_at wd hj
      cases io with
      | lst hs => exact ⟨p, qs, h1.dp wd hx, .inr (.lst (.inl (.inl ho)) (h2.dp wd (isDs_of ha hs))), h3, h4, c.now wd h (.dat (.bl _))⟩
    | dat hy =>
      cases hy with
      | tup a b =>
        obtain ⟨p, qs, h1, h2, h3, h4, h⟩ := h
        exact ⟨p, qs, h1.dp wd hx, .inl (.tup (wd.sub.st a.st) (h2.dp wd b)), h3, h4, c.now wd h (.dat (.bl _))⟩
      | ktu a b =>
        obtain ⟨p, qs, h1, h2, h3, h4, h⟩ := h
        exact ⟨p, qs, h1.dp wd hx, .inl (.tup (wd.sub.st a) (h2.dp wd b)), h3, h4, c.now wd h (.dat (.bl _))⟩
      | lst a b =>
        obtain ⟨p, qs, h1, h2, h3, h4, h⟩ := h
        exact ⟨p, qs, h1.dp wd hx, .inr (.lst (wd.sub.sl (.inl (.inl a))) (h2.dp wd b)), h3, h4, c.now wd h (.dat (.bl _))⟩
      | _ => exact h.elim
section
variable {κ α β : Type} [DecidableEq κ]
/-- what is at a key | the dict with an item put -/
def getD (kvs : List (κ × α)) (k : κ) : Option α := (kvs.find? fun kv => decide (kv.1 = k)).map (·.2)
def putD (kvs : List (κ × α)) (k : κ) (a : α) : List (κ × α) := if (kvs.any fun kv => decide (kv.1 = k)) = true then kvs.map (fun kv => if kv.1 = k then (kv.1, a) else kv) else kvs ++ [(k, a)]
end
theorem getD_V {κ : Type} [DecidableEq κ] (kvs : List (κ × V)) (k : κ) : valV kvs k = getD kvs k := rfl
section
variable {K : PySem.W.Frag} {I : Hp} {κ : Type} [DecidableEq κ]
theorem rk_get {k : κ} : ∀ {xs : List (κ × Sv)} {vs : List (κ × V)}, Paired (RK K I) xs vs → (∀ s, getD xs k = some s → ∃ v, getD vs k = some v ∧ IsS K I s v) ∧ (getD xs k = none → getD vs k = none)
  | _, _, .nil => ⟨fun s h => (by cases h), fun _ => rfl⟩
  | _, _, .cons (a := (j, s)) (b := (j', v)) (l₁ := xs) (l₂ := vs) r t => by
    obtain ⟨e1, e2⟩ := r
    have e1 : j = j' := e1
    subst e1
    have ih := rk_get (k := k) t
    by_cases e : j = k
    · have g1 : getD ((j, s) :: xs) k = some s := by unfold getD; rw [List.find?_cons_of_pos (by simpa using e)]; rfl
      have g2 : getD ((j, v) :: vs) k = some v := by unfold getD; rw [List.find?_cons_of_pos (by simpa using e)]; rfl
      rw [g1, g2]
      exact ⟨fun s' h => (by cases h; exact ⟨v, rfl, e2⟩), fun h => (by cases h)⟩
    · have g1 : getD ((j, s) :: xs) k = getD xs k := by unfold getD; rw [List.find?_cons_of_neg (by simpa using e)]
      have g2 : getD ((j, v) :: vs) k = getD vs k := by unfold getD; rw [List.find?_cons_of_neg (by simpa using e)]
      rw [g1, g2]
      exact ih
theorem rk_any {k : κ} : ∀ {xs : List (κ × Sv)} {vs : List (κ × V)}, Paired (RK K I) xs vs → (xs.any fun kv => decide (kv.1 = k)) = vs.any fun kv => decide (kv.1 = k)
  | _, _, .nil => rfl
  | _, _, .cons (a := (j, s)) (b := (j', v)) r t => by
    obtain ⟨e1, e2⟩ := r
    have e1 : j = j' := e1
    subst e1
    rw [List.any_cons, List.any_cons, rk_any t]
theorem rk_map {k : κ} {s : Sv} {v : V} (h : IsS K I s v) : ∀ {xs : List (κ × Sv)} {vs : List (κ × V)}, Paired (RK K I) xs vs → Paired (RK K I) (xs.map fun kv => if kv.1 = k then (kv.1, s) else kv) (vs.map fun kv => if kv.1 = k then (kv.1, v) else kv)
  | _, _, .nil => .nil
  | _, _, .cons (a := (j, s')) (b := (j', v')) r t => by
    obtain ⟨e1, e2⟩ := r
    have e1 : j = j' := e1
    subst e1
    rw [List.map_cons, List.map_cons]
    refine .cons ?_ (rk_map h t)
    by_cases e : j = k
    · rw [if_pos e, if_pos e]
      exact ⟨rfl, h⟩
    · rw [if_neg e, if_neg e]
      exact ⟨rfl, e2⟩
theorem rk_putD {k : κ} {s : Sv} {v : V} (h : IsS K I s v) {xs : List (κ × Sv)} {vs : List (κ × V)} (r : Paired (RK K I) xs vs) : Paired (RK K I) (putD xs k s) (putK vs k v) := by
  unfold putD putK
  rw [rk_any r]
  split
  · exact rk_map h r
  · exact paired_app r (.cons ⟨rfl, h⟩ .nil)
end
theorem rk_of : ∀ {K : PySem.W.Frag} {I : Hp} {ds : List (Key × Dt)} {vs : List (Key × V)}, IsDk K I ds vs → Paired (RK K I) (ds.map fun kv => (kv.1, Sv.dat kv.2)) vs
  | _, _, _, _, .nil => .nil
  | _, _, _, _, .cons a b => .cons ⟨rfl, .dat a⟩ (rk_of b)
/-- a key -/
def keyD : Dt → Option Key
  | .int i => some (.inl i)
  | .str x => some (.inr x)
  | _ => none
/-- what is done with a dict's items -/
def withK (x : Sv) (st : Store) (k : List (Key × Sv) → Prop) : Prop := match x with
  | .dat (.dic ds) => k (ds.map fun kv => (kv.1, Sv.dat kv.2))
  | .own p => ∃ (j : Nat) (xs : List (Key × Sv)), st[j]? = some (p, Ob.dic xs) ∧ k xs
  | _ => False
theorem withK_rd {K : PySem.W.Frag} {st : Store} {I H : Hp} {x : Sv} {v : V} {k : List (Key × Sv) → Prop} (w : Wd K st I H) (i : IsS K I x v) (h : withK x st k) : ∃ a vs xs, v = .ref a ∧ Rd H a (.dK vs) ∧ Paired (RK K I) xs vs ∧ k xs := by
  cases i with
  | own p =>
    obtain ⟨j, xs, hj, hk⟩ := h
    obtain ⟨o, ho, io⟩ := own_at w hj
    cases io with
    | dic hs => exact ⟨p, _, xs, rfl, .inl ho, hs, hk⟩
  | dat hd =>
    cases hd with
    | dic h1 h2 => exact ⟨_, _, _, rfl, w.sub.rd h1, rk_of h2, h⟩
    | _ => exact h.elim
theorem key_is {K : PySem.W.Frag} {I : Hp} {d : Dt} {v : V} {k : Key} (h : IsD K I d v) (e : keyD d = some k) : v = kV k := by
  cases h <;> first | (cases e; done) | (cases e; rfl)
/-- d[k], there -/
def dDGet (td ty : DE) : DE := fun Δ st ok ex => td Δ st (fun x st1 => ty Δ st1 (fun y st2 => match y with
  | .dat dy => withK x st2 fun xs => ∃ k s, keyD dy = some k ∧ getD xs k = some s ∧ ok s st2
  | _ => False) ex) ex
def dDIn (neg : Bool) (ty td : DE) : DE := fun Δ st ok ex => ty Δ st (fun y st1 => td Δ st1 (fun x st2 => match y with
  | .dat dy => withK x st2 fun xs => ∃ k, keyD dy = some k ∧ ok (.dat (.bl (if neg then !(getD xs k).isSome else (getD xs k).isSome))) st2
  | _ => False) ex) ex
/-- d[k] = v, d of one's own -/
def dDPut (td ty tv : DE) : DS := fun Δ st N => tv Δ st (fun v st1 => td Δ st1 (fun x st2 => ty Δ st2 (fun y st3 => match x, y with
  | .own p, .dat dy => ∃ (j : Nat) (xs : List (Key × Sv)) (k : Key), st3[j]? = some (p, Ob.dic xs) ∧ keyD dy = some k ∧ xs.length < sizeLine ∧ N.nx Δ (st3.set j (p, .dic (putD xs k v)))
  | _, _ => False) (exAt N Δ)) (exAt N Δ)) (exAt N Δ)
/-- {} of one's own -/
def dDNew : DE := fun _ st ok _ => ∀ p, p ∉ keys st → ok (.own p) ((p, .dic []) :: st)
section
variable {K : PySem.W.Frag} {W : WX} {st : Store} {I H : Hp}
theorem low_dget {td ty : DE} : ∀ σ H Q, low K (dDGet td ty) W σ H Q → tDGet (low K td W) (low K ty W) σ H Q := by
  rintro σ H Q ⟨Δ, st, I, ok, ex, wd, sl, h, c, cx⟩
  refine low_go wd sl h (fun x st1 v I1 H1 h1 w1 s1 i1 => ?_) cx
  refine low_go w1 (sl.mono s1.ii) h1 (fun y st2 u I2 H2 h2 w2 s2 i2 => ?_) (cx.go s1)
  cases i2 with
  | own p => exact h2.elim
  | dat hy =>
    obtain ⟨a, vs, xs, rfl, hd, hp, k, s, hk, hg, h2⟩ := withK_rd w2 (i1.mono s2.ii) h2
    obtain ⟨v', hv, iv⟩ := (rk_get hp).1 s hg
    have e := key_is hy hk
    subst e
    exact ⟨a, v', rfl, .inl ⟨vs, k, hd, rfl, by rw [getD_V]; exact hv.symm⟩, (c.go (s1.trans s2)).now w2 h2 iv⟩
theorem low_dni {ty td : DE} : ∀ σ H Q, low K (dDIn true ty td) W σ H Q → tDNotIn (low K ty W) (low K td W) σ H Q := by
  rintro σ H Q ⟨Δ, st, I, ok, ex, wd, sl, h, c, cx⟩
  refine low_go wd sl h (fun y st1 u I1 H1 h1 w1 s1 i1 => ?_) cx
  refine low_go w1 (sl.mono s1.ii) h1 (fun x st2 v I2 H2 h2 w2 s2 i2 => ?_) (cx.go s1)
  cases i1 with
  | own p => exact h2.elim
  | dat hy =>
    obtain ⟨a, vs, xs, rfl, hd, hp, k, hk, h2⟩ := withK_rd w2 i2 h2
    have e := key_is hy hk
    subst e
    have g : (getD vs k).isSome = (getD xs k).isSome := by
      cases q : getD xs k with
      | none => exact congrArg Option.isSome ((rk_get hp).2 q)
      | some s =>
        obtain ⟨v', hv, _⟩ := (rk_get hp).1 s q
        rw [hv]
        rfl
    exact ⟨a, _, rfl, .inl ⟨vs, k, hd, rfl, rfl⟩, by rw [getD_V, g]; exact (c.go (s1.trans s2)).now w2 h2 (.dat (.bl _))⟩
theorem lowS_dput {td ty tv : DE} : ∀ D σ H, lowS K (dDPut td ty tv) W D σ H → sDPut (low K td W) (low K ty W) (low K tv W) D σ H := by
  rintro D σ H ⟨Δ, st, I, N, wd, sl, h, e⟩
  refine low_go wd sl h (fun v st1 vv I1 H1 h1 w1 s1 i1 => ?_) (cx_of sl e)
  refine low_go w1 (sl.mono s1.ii) h1 (fun o st2 ov I2 H2 h2 w2 s2 i2 => ?_) (cx_of (sl.mono s1.ii) (e.go s1))
  have s12 := s1.trans s2
  refine low_go w2 (sl.mono s12.ii) h2 (fun y st3 yv I3 H3 h3 w3 s3 i3 => ?_) (cx_of (sl.mono s12.ii) (e.go s12))
  have s13 := s12.trans s3
  cases i2 with
  | dat hd => exact (h3 : False).elim
  | own p =>
    cases i3 with
    | own q => exact (h3 : False).elim
    | dat hy =>
      obtain ⟨j, xs, k, hj, hk, hl, hn⟩ := h3
      obtain ⟨u, hu, io⟩ := own_at w3 hj
      cases io with
      | @dic _ us hs =>
        have eq := key_is hy hk
        subst eq
        obtain ⟨w4, s4⟩ := set_own (o' := .dK (putK us k vv)) w3 hj (.dic (rk_putD (i1.mono (s2.ii.trans s3.ii)) hs))
        exact ⟨p, _, rfl, .inl ⟨us, k, hu, rfl, by rw [← paired_len hs]; exact hl, rfl⟩, e.nx _ _ _ _ _ hn w4 (s13.trans s4) (sl.mono s13.ii)⟩
theorem low_dnew : ∀ σ H Q, low K dDNew W σ H Q → tDNewK σ H Q := by
  rintro σ H Q ⟨Δ, st, I, ok, ex, wd, sl, h, c, cx⟩
  intro p hp
  obtain ⟨np, w2, s2⟩ := new_own (o := .dK []) (ob := .dic []) wd hp (.dic .nil)
  exact c _ _ _ _ _ (h p np) w2 s2 (.own p)
end
end DD
namespace DD
open PySem PySem.Spec PyProof.Rows L2
theorem hu1 {k : Nat} {A : Around} (r : Room k A) : A.units + 1 < cLine := by
  have := r.un
  omega
theorem hu64 {k : Nat} {A : Around} (r : Room k A) : A.units + 64 < cLine := by
  have := r.un
  omega
theorem hu65 {k : Nat} {A : Around} (r : Room k A) : A.units + 65 < cLine := by
  have := r.un
  omega
section
variable {K : PySem.W.Frag} {W : WX} {st : Store} {I H : Hp}
theorem isDs_pair : ∀ {ds : List Dt} {vs : List V}, IsDs K I ds vs → Paired (IsD K I) ds vs
  | _, _, .nil => .nil
  | _, _, .cons a b => .cons a (isDs_pair b)
theorem pair_isDs : ∀ {ds : List Dt} {vs : List V}, Paired (IsD K I) ds vs → IsDs K I ds vs
  | _, _, .nil => .nil
  | _, _, .cons a b => .cons a (pair_isDs b)
def dTruL (te : DE) : DT := fun Δ st ok ex => te Δ st (fun x st1 => withL x st1 fun xs => ok (!xs.isEmpty) st1) ex
theorem emp_eq {α β : Type} {F : α → β → Prop} : ∀ {xs : List α} {ys : List β}, Paired F xs ys → xs.isEmpty = ys.isEmpty
  | _, _, .nil => rfl
  | _, _, .cons _ _ => rfl
theorem lowT_truL {te : DE} : ∀ σ H Q, lowT K (dTruL te) W σ H Q → low K te W σ H (fun x H' => ∃ k, TruV K x H' k ∧ Q k H') := by
  rintro σ H Q ⟨Δ, st, I, ok, ex, wd, sl, h, c, cx⟩
  refine low_go wd sl h (fun x st1 v I1 H1 h1 w1 s1 i1 => ?_) cx
  obtain ⟨a, vs, xs, rfl, hs, hp, h1⟩ := withL_rd w1 i1 h1
  exact ⟨_, .inl ⟨vs, hs, by rw [← emp_eq hp]⟩, c _ _ _ _ h1 w1 s1⟩
def gCatU : G2 := fun x y st ok => match x, y with
  | .dat (.tup xs), .dat (.tup ys) => xs.length + ys.length ≤ sizeLine ∧ ok (.dat (.tup (xs ++ ys))) st
  | .dat (.ktu []), .dat (.tup ys) => ys.length ≤ sizeLine ∧ ok (.dat (.tup ys)) st
  | _, _ => False
theorem lr_catU : LR2 K (rCatA K) gCatU := by
  intro x y st I H ok Q v w wd ix iy h c
  cases ix with
  | own p => exact h.elim
  | dat hx =>
    cases hx with
    | @tup ds vs a ha hb =>
      cases iy with
      | own p => exact h.elim
      | dat hy =>
        cases hy with
        | @tup es us b ha2 hb2 =>
          obtain ⟨hl, h⟩ := h
          have l1 := paired_len (isDs_pair hb)
          have l2 := paired_len (isDs_pair hb2)
          refine ⟨a, b, vs, us, rfl, rfl, wd.sub.st ha.st, wd.sub.st ha2.st, by rw [← l1, ← l2]; exact hl, fun e => ?_, fun _ e => ?_, fun _ _ p hp => ?_⟩
          · subst e
            cases ds with
            | nil => exact c.now wd h (.dat (.tup ha2 hb2))
            | cons d ds => cases l1
          · subst e
            cases es with
            | nil =>
              rw [List.append_nil] at h
              exact c.now wd h (.dat (.tup ha hb))
            | cons d es => cases l2
          · obtain ⟨w2, s2⟩ := new_known (o := .tup (vs ++ us)) wd hp
            exact c _ _ _ _ _ h w2 s2 (.dat (.tup (.inl upd_same) ((pair_isDs (paired_app (isDs_pair hb) (isDs_pair hb2))).mono (Ex.new (wd.sub.none hp)))))
        | _ => exact h.elim
    | @ktu ds vs a ha hb =>
      cases iy with
      | own p => cases ds <;> exact h.elim
      | dat hy =>
        cases hy with
        | @tup es us b ha2 hb2 =>
          cases ds with
          | cons d ds => exact h.elim
          | nil =>
            obtain ⟨hl, h⟩ := h
            cases hb
            have l2 := paired_len (isDs_pair hb2)
            exact ⟨a, b, [], us, rfl, rfl, wd.sub.st ha, wd.sub.st ha2.st, by rw [← l2]; simpa using hl, fun _ => c.now wd h (.dat (.tup ha2 hb2)), fun e => absurd rfl e, fun e => absurd rfl e⟩
        | _ => cases ds <;> exact h.elim
    | _ => cases iy <;> exact h.elim
theorem keys_rel : ∀ {kvs : List (Key × Sv)} {vs : List (Key × V)}, Paired (RK K I) kvs vs → ∀ J, IsDs K J (kvs.map fun kv => match kv.1 with | .inl i => .int i | .inr z => .str z) (vs.map fun kv => kV kv.1)
  | _, _, .nil, _ => .nil
  | _, _, .cons (a := (k, s)) (b := (k', v)) r t, J => by
    obtain ⟨e, _⟩ := r
    have e : k = k' := e
    subst e
    refine .cons ?_ (keys_rel t J)
    cases k with
    | inl i => exact .int i
    | inr z => exact .str z
end
section
variable {X : Cx} {W : WX} {a b c e o : Expr} {es : List Expr} {ta tb tc te to : DE} {pos p p2 apos : Pos} {s : Stmt} {ss : List Stmt} {t u : DS}
theorem tB_of {td : DE} {tr : TE} (h : ∀ σ H Q, low X.K td W σ H Q → tr σ H Q) : ∀ σ H Q, lowT X.K (dTest td) W σ H Q → tB tr σ H Q := fun σ H Q q => by
  obtain ⟨Δ, st, I, ok, ex, wd, sl, q, c, cx⟩ := q
  refine h _ _ _ ⟨Δ, st, I, _, ex, wd, sl, q, fun s st' v I' H' h' w' s' i' => ?_, cx⟩
  cases i' with
  | own p => exact h'.elim
  | dat hd =>
    cases hd with
    | bl k => exact ⟨k, rfl, c _ _ _ _ h' w' s'⟩
    | _ => exact h'.elim
theorem ddget (hu : X.A.units + 1 < cLine) (ho : PEd X W o to) (hi : PEd X W e te) (hs : NoSl e := by exact fun _ _ => rfl) : PEd X W (.Subscript o e pos) (dDGet to te) := PE.imp (pe_dget hu ho hi hs) low_dget
theorem tdNi (hu : X.A.units + 1 < cLine) (hi : PEd X W e te) (ho : PEd X W o to) (h1 : behindInMarks .NotIn o = false := by with_unfolding_all rfl) : PTd X W (.Compare e [.NotIn] [o] pos) (dTest (dDIn true te to)) := PT.imp (pt_cmp (pc_dnotin hu hi ho) h1) (tB_of low_dni)
theorem sdput {p' : Pos} {tv : DE} (hu : X.A.units + 1 < cLine) (hv : PEd X W a tv) (ho : PEd X W o to) (hi : PEd X W e te) (hs : swapsWith a (some (.Subscript o e p')) pos.line X.env = pure false := by rfl) : PSd X W (.Assign [.Subscript o e p'] a pos) (dDPut to te tv) := PS.imp (ps_dput hu ho hi hv hs) lowS_dput
theorem ddnew : PEd X W (.Dict [] [] pos) dDNew := PE.imp pe_dnewK low_dnew
theorem tsIn {k : Nat} (hr : Room k X.A) (ha : PEd X W a ta) (hb : PEd X W b tb) (hm : behindInMarks .In b = false := by with_unfolding_all rfl) : PTd X W (.Compare a [.In] [b] pos) (dTest (dOp (gInP false) ta tb)) := tcmp (op_inP (hu65 hr)) lr_inP ha hb hm
theorem tsNi {k : Nat} (hr : Room k X.A) (ha : PEd X W a ta) (hb : PEd X W b tb) (hm : behindInMarks .NotIn b = false := by with_unfolding_all rfl) : PTd X W (.Compare a [.NotIn] [b] pos) (dTest (dOp (gInP true) ta tb)) := tcmp (op_niP (hu65 hr)) lr_inP ha hb hm
theorem PO.imp {e : Option Expr} {t t' : TO} (h : PO X e t) (i : ∀ σ H Q, t' σ H Q → t σ H Q) : PO X e t' := ⟨fun pins s σ H Q J q => h.run pins s σ H Q J (i σ H Q q)⟩
theorem ttruL (h : PEd X W e te) (he : ∀ whole, isTrue e X.env whole = (do let v ← whole; standAt e.pos; holding [v] (truthy v)) := by intro _; rfl) : PTd X W e (dTruL te) := PT.imp (pt_truth h he) lowT_truL
theorem sapp (ho : PEd X W o to) (he : PEd X W e te) (hbase : attributeBase o "append" X.env (eval o X.env) = eval o X.env := by rfl)
    (hfew : ((backTo pos (starEach [e] X.env)).all (fun x => !x.1) && (backToKw pos (keywordEach [] X.env)).all (fun x => x.1.isSome)
      && decide (([e] : List Expr).length + ([] : List Keyword).length + (if ([] : List Keyword).isEmpty then 0 else 1) < 30)) = true := by rfl)
    (hline : (apos.endLine == pos.line) = true := by rfl) (hs : starEach [e] X.env = (false, eval e X.env) :: starEach [] X.env := by rfl) (hplain : (backTo pos (starEach [] X.env)).any (·.1) = false := by rfl)
    (hsw : swapsWith (.Call (.Attribute o "append" apos) [e] [] pos) none p2.line X.env = pure false := by rfl) : PSd X W (.Expr (.Call (.Attribute o "append" apos) [e] [] pos) p2) (dApp to te) :=
  PS.imp (ps_expr (pe_bm PySem.F.plainAttrs_list PySem.F.slot_list_append PySem.F.type_list_append mt_append ho (pa_cons he pa_nil hs) hbase hfew hline hs hplain) hsw) lowS_app
theorem sdrop (he : PEd X W e te) (hs : swapsWith e none pos.line X.env = pure false := by rfl) : PSd X W (.Expr e pos) (dDrop te) := PS.imp (ps_expr he hs) lowS_drop
end
end DD
namespace DD
open PySem PySem.Spec PyProof.Rows L2
/-- the class's facts for != -/
structure NeC (K : PySem.W.Frag) (C f : Addr) : Prop where
  cls : ∃ nm q N bs hdct sn sub ab col dd k0 k1 k2 k3 k5 newId, K.lookup C = some (excClassObj nm q C N bs [.type "object"] hdct sn sub ab col dd k0 k1 k2 k3 k5 newId) ∧ PySem.W.nsOkIn K N = true ∧ PySem.W.nsIn K N "__eq__" = some (some (.ref f)) ∧ PySem.W.nsIn K N "__ne__" = some none
  fn : ∃ of : Obj, K.lookup f = some of ∧ of.cls = .type "function"
end DD
namespace DD
open PySem PySem.Spec PyProof.Rows L2
def dDead : DE := fun _ _ _ _ => False
theorem ddead {X : Cx} {W : WX} {e : Expr} : PEd X W e dDead := ⟨fun pins s σ H Q I h => by obtain ⟨_, _, _, _, _, _, _, z, _⟩ := h; exact z.elim⟩
abbrev Cl := Value × Option Nat × (Addr → Value → Option Addr → TS)
def shut (i : Nat) (D : Ends) : Ends := { nx := fun σ H => D.nx (σ.set i none) H, rt := D.rt, bk := fun σ H => D.bk (σ.set i none) H, ct := fun σ H => D.ct (σ.set i none) H }
def clAt (D : Ends) (l : Cl) (a : Addr) (cls : Value) (d : Option Addr) (σ : L2.St) (H : Hp) : Prop := match l.2.1 with
  | none => l.2.2 a cls d D σ H
  | some i => l.2.2 a cls d (shut i D) (σ.set i (some (.ref a))) H
def wCls (K : PySem.W.Frag) (Wo : WX) (D : Ends) : List Cl → WX
  | [] => Wo
  | l :: r => fun cls d σ H => ∃ b, PySem.W.exmOne K cls l.1 = some b ∧ (b = true → ∀ a, H a = none → clAt D l a cls d σ H) ∧ (b = false → wCls K Wo D r cls d σ H)
/-- the suites' derivations -/
def SuOk (X : Cx) (sl : List Stmt) (ts : Addr → Value → Option Addr → TS) : Prop := ∀ (a : Addr) (oe : Obj) (cls : Value) (d : Option Addr) (pn : List (Addr × Obj)), Zc cls d oe → (∃ vs, oe.data = .fields vs) → PSs (X.suite a ((a, oe) :: pn)) sl (ts a cls d)
inductive Cls_ (X : Cx) : List ExceptHandler → List Cl → Prop
  | nil : Cls_ X [] []
  | bare {x : Str} {c : Value} {ts : Addr → Value → Option Addr → TS} {b : Stmt} {su : List Stmt} {p q : Pos} {hs : List ExceptHandler} {l : List Cl} (n : Names X x c) (s : SuOk X (b :: su) ts) (r : Cls_ X hs l) : Cls_ X (.ExceptHandler (some (.Name x p)) none (b :: su) q :: hs) ((c, none, ts) :: l)
  | as {x y : Str} {i : Nat} {c : Value} {ts : Addr → Value → Option Addr → TS} {b : Stmt} {su : List Stmt} {p q : Pos} {hs : List ExceptHandler} {l : List Cl} (hi : X.N[i]? = some y) (hl : X.env.kindOf y = some .local) (n : Names X x c) (s : SuOk X (b :: su) ts) (r : Cls_ X hs l) :
      Cls_ X (.ExceptHandler (some (.Name x p)) (some y) (b :: su) q :: hs) ((c, some i, ts) :: l)
section
variable {X : Cx} {h₀ : ExceptHandler} {hds : List ExceptHandler} {l : List Cl} {pos : Pos} {body : List Stmt} {tb : WX → TS} {Wo : WX}
theorem ps_try_cls (hst : X.stack = X.env :: X.outer) (hfr : X.env.frame = some X.env.locals) (hN : X.N.Nodup) (tk : Takes X Wo)
    (hb : ∀ (V : WX) (pn : List (Addr × Obj)) (xe : Value → Shared → Prop), Takes (X.tr pn xe) V → PassesOwn (model X.prog X.w) X.A X.env xe → PSs (X.tr pn xe) body (tb V))
    (hh : Cls_ X (h₀ :: hds) l) : PS X (.Try body (h₀ :: hds) [] [] pos) (fun D σ H => tb (wCls X.K Wo D l) D σ H) := by
  constructor
  intro pins s σ H D I h
  have fr : X.A.frames = some (X.env :: X.outer) := I.ok.frames.trans (congrArg some hst)
  apply wpAny_Try_except
  let xe : Value → Shared → Prop := fun e s1 => wpAny (model X.prog X.w) X.A (noteFrame e X.env) (fun _ s2 => wpAny (model X.prog X.w) X.A (setFlight e none) (fun _ s3 => wpAny (model X.prog X.w) X.A (handleBy e X.env (h₀ :: hds)) (SP X pins D) X.xe s3) X.xe s2) X.xe s1
  have tk1 : Takes (X.tr (X.pn ++ pins) xe) (wCls X.K Wo D l) := by
    rintro u s1 ⟨a, B, sI, pins1, σ1, H1, cls, d, rfl, J0, nb, up, sk, na, os, ag, wish⟩
    have J := J0.ofTry I.ok
    have sk1 : Sky B (X.env :: X.outer) a (Zc cls d) X.env.locals s1.heap := hst ▸ sk
    show wpAny (model X.prog X.w) X.A (noteFrame (.ref a) X.env) _ _ _
    apply Sky.land Zc.steady fr hfr sk1
    intro g fl upg
    have upB := up.trans upg
    have Jg : L2.Inv X pins σ1 H1 { s1 with heap := g } := J.landed nb fl.1 upB os ag
    obtain ⟨ob, fs, hob, hz, hfs⟩ := fl.there
    have out : a ∉ frs (X.env :: X.outer) := fun m => by
      obtain ⟨_, o1, h1, h2⟩ := fl.2.2.1.mem m
      rw [hob] at h1
      cases h1
      exact h2 _ hfs
    have aL : a ≠ X.env.locals := fun z => out (List.mem_filterMap.mpr ⟨_, List.mem_cons_self, by rw [hfr, z]⟩)
    have aF : a ∉ X.fs := fun m => by
      obtain ⟨e1, m1, q1⟩ := List.mem_filterMap.mp m
      exact out (List.mem_filterMap.mpr ⟨_, List.mem_cons_of_mem _ m1, q1⟩)
    have Sg := Jg.suite hob hfs na aL aF
    suffices go : ∀ {hs : List ExceptHandler} {ls : List Cl}, Cls_ X hs ls → wCls X.K Wo D ls cls d σ1 H1 → wpAny (model X.prog X.w) X.A (handleBy (.ref a) X.env hs) (SP X pins D) X.xe { s1 with heap := g } from go hh wish
    have leave : Wo cls d σ1 H1 → wpAny (model X.prog X.w) X.A (handleBy (.ref a) X.env []) (SP X pins D) X.xe { s1 with heap := g } := fun wo => by
      apply wpAny_handleBy_nil
      unfold PySem.passOn
      obtain ⟨_, _, _, ob2, fs2, T, _, _, hob2, _, hfs2, tb1, _⟩ := id fl
      refine wpAny_bind (wpAny_field hob2 hfs2 tb1 ?_)
      rw [if_neg (by simp : ¬ ((Value.ref T == Value.none) = true))]
      have thr : wpAny (model X.prog X.w) X.A (setFlight (.ref a) X.env.frame) (fun _ s4 => wpAny (model X.prog X.w) X.A (throw (.ref a) : Sem Flow) (SP X pins D) X.xe s4) X.xe { s1 with heap := g } := by
        rw [hfr]
        exact HandSPX.setFlight_upZ fl fun g4 sk4 up4 => wpAny_throw (tk _ _ ⟨a, B, sI, pins, σ1, H1, cls, d, rfl, J, nb, upB.trans up4, .inr (.inr (by rw [hst]; exact sk4)), na, os, ag, wo⟩)
      first | exact wpAny_bind (wpAny_pure (wpAny_bind thr)) | exact wpAny_bind thr
    have nameAt : ∀ {x : Str} {c : Value} {p : Pos} {Q E : Value → Shared → Prop}, Names X x c → Q c { s1 with heap := g } → wpAny (model X.prog X.w) (X.A.mark (some (.ref a))) (eval (.Name x p) X.env) Q E { s1 with heap := g } := fun {x c p Q E} n q => by
      rcases n with ⟨g1, g2, g3 | ⟨g3, g4, g5⟩⟩
      · exact ld_glob (X := X.suite a ((a, ob) :: (X.pn ++ pins))) Sg g1 g3 q g2
      · exact ld_blt (X := X.suite a ((a, ob) :: (X.pn ++ pins))) Sg g1 g3 g4 q g5 g2
    have clsOf : PySem.W.Looks (model X.prog X.w) g (typeOf (.ref a)) cls := fun A Q E s' k q => wpAny_typeOf_ref (k _ _ hob) (by rw [hz.1]; exact q)
    intro hs ls c
    induction c with
    | nil => exact leave
    | @bare x c ts b su p q hs ls n sok r ih =>
      rintro ⟨k, hk, yes, no⟩
      refine wpAny_handleBy_cons (codeAny_handlers_test (nameAt n ((PySem.W.exm_one (M := model X.prog X.w) Jg.kIn clsOf hk).here ?_))) (fun z => nomatch z)
      cases k with
      | false => exact ih (no rfl)
      | true =>
        refine codeAny_handlers_suite (HandSPX.lands_againZ fl fun g2 fl2 up2 => ?_)
        have J2 : L2.Inv X pins σ1 H1 { s1 with heap := g2 } := J.landed nb fl2.1 (upB.trans up2) os ag
        obtain ⟨ob2, fs2, hob2, hz2, hfs2⟩ := fl2.there
        refine wpAny_mono ((sok a ob2 cls d (X.pn ++ pins) hz2 ⟨_, hfs2⟩).run [] _ _ H1 _ (J2.suite hob2 hfs2 na aL aF) (yes rfl a na)) (fun f s6 sp => ?_) (fun _ _ z => z.elim)
        cases f with
        | ret u => obtain ⟨v, σ6, H6, S6, r6, q6⟩ := sp; exact ⟨v, σ6, H6, S6.unsuite I.ok, r6, q6⟩
        | next => obtain ⟨σ6, H6, S6, q6⟩ := sp; exact ⟨σ6, H6, S6.unsuite I.ok, q6⟩
        | brk => obtain ⟨σ6, H6, S6, q6⟩ := sp; exact ⟨σ6, H6, S6.unsuite I.ok, q6⟩
        | cont => obtain ⟨σ6, H6, S6, q6⟩ := sp; exact ⟨σ6, H6, S6.unsuite I.ok, q6⟩
    | @as x y i c ts b su p q hs ls hi hl n sok r ih =>
      rintro ⟨k, hk, yes, no⟩
      refine wpAny_handleBy_cons (codeAny_handlers_test (nameAt n ((PySem.W.exm_one (M := model X.prog X.w) Jg.kIn clsOf hk).here ?_))) (fun z => nomatch z)
      cases k with
      | false => exact ih (no rfl)
      | true =>
        refine codeAny_handlers_suite_as (HandSPX.lands_againZ fl fun g2 fl2 up2 => ?_)
        have J2 : L2.Inv X pins σ1 H1 { s1 with heap := g2 } := J.landed nb fl2.1 (upB.trans up2) os ag
        obtain ⟨ob2, fs2, hob2, hz2, hfs2⟩ := fl2.there
        refine store_ok (X := X.suite a ((a, ob2) :: (X.pn ++ pins))) (v := .ref a) (J2.suite hob2 hfs2 na aL aF) hN hi (.inl hl) rfl (fun s5 S5 => ?_) (.inr hl)
        refine wpAny_mono ((sok a ob2 cls d (X.pn ++ pins) hz2 ⟨_, hfs2⟩).run [] s5 _ H1 _ S5 (yes rfl a na)) (fun f s6 sp => ?_) (fun _ _ z => z.elim)
        have bye : ∀ {σ6 : L2.St} {H6 : Hp} {Q : Shared → Prop}, L2.Inv (X.suite a ((a, ob2) :: (X.pn ++ pins))) [] σ6 H6 s6 → (∀ s7, L2.Inv X pins (σ6.set i none) H6 s7 → Q s7) →
            wpAny (model X.prog X.w) X.A (do bindName X.env y .none; unbindBehindTheSuite X.env y q) (fun _ s7 => Q s7) X.xe s6 := fun S6 hq => gone_ok (S6.unsuite I.ok) hN hi hl hq
        cases f with
        | ret u => obtain ⟨v, σ6, H6, S6, r6, q6⟩ := sp; exact bye S6 fun s7 J7 => ⟨v, _, _, J7, r6, q6⟩
        | next => obtain ⟨σ6, H6, S6, q6⟩ := sp; exact bye S6 fun s7 J7 => ⟨_, _, J7, q6⟩
        | brk => obtain ⟨σ6, H6, S6, q6⟩ := sp; exact bye S6 fun s7 J7 => ⟨_, _, J7, q6⟩
        | cont => obtain ⟨σ6, H6, S6, q6⟩ := sp; exact bye S6 fun s7 J7 => ⟨_, _, J7, q6⟩
  refine wpAny_mono ((hb _ (X.pn ++ pins) xe tk1 PassesOwn.looking).run [] s σ H D (I.toTry _) h) (fun f s1 sp => ?_) (fun e s1 he => he)
  cases f with
  | next => obtain ⟨σ6, H6, S6, q6⟩ := sp; exact wpAny_execs_nil ⟨σ6, H6, S6.ofTry I.ok, q6⟩
  | brk => obtain ⟨σ6, H6, S6, q6⟩ := sp; exact ⟨σ6, H6, S6.ofTry I.ok, q6⟩
  | cont => obtain ⟨σ6, H6, S6, q6⟩ := sp; exact ⟨σ6, H6, S6.ofTry I.ok, q6⟩
  | ret u => obtain ⟨v, σ6, H6, S6, r6, q6⟩ := sp; exact ⟨v, σ6, H6, S6.ofTry I.ok, r6, q6⟩
end
abbrev DCl := Value × Option Nat × (Addr → Value → Option Addr → DS)
def shutN (i : Nat) (N : DN) : DN := { N with nx := fun Δ st => N.nx (Δ.set i .un) st, bk := fun Δ st => N.bk (Δ.set i .un) st, ct := fun Δ st => N.ct (Δ.set i .un) st }
def dClAt (N : DN) (l : DCl) (x : Xc) (a : Addr) (d : Option Addr) (Δ : List Sv) (st : Store) : Prop := match l.2.1 with
  | none => l.2.2 a (.ref x.C) d Δ st (calmN N)
  | some i => l.2.2 a (.ref x.C) d (Δ.set i (.dat (.exc a d x.C x.fs))) st (shutN i (calmN N))
def dCls (K : PySem.W.Frag) (N : DN) : List DCl → Xc → List Sv → Store → Prop
  | [] => fun x Δ st => N.ex x Δ st
  | l :: r => fun x Δ st => ∃ b, PySem.W.exmOne K (.ref x.C) l.1 = some b ∧ (b = true → ∀ a d, (x.fs = [] → d = none) → dClAt N l x a d Δ st) ∧ (b = false → dCls K N r x Δ st)
def dTryN (K : PySem.W.Frag) (cl : List DCl) (body : DS) : DS := fun Δ st N => body Δ st { N with ex := dCls K N cl }
def lowC (K : PySem.W.Frag) (l : DCl) : Cl := (l.1, l.2.1, fun a cls d => lowS K (l.2.2 a cls d) W0)
theorem ends_shut {K : PySem.W.Frag} {W : WX} {st : Store} {I H : Hp} {N : DN} {D : Ends} {i : Nat} (e : Ends_ K st I H N W D) : Ends_ K st I H (shutN i (calmN N)) W0 (shut i D) where
  nx := fun Δ st' σ' I' H' h w s l => e.nx _ _ _ _ _ h w s (sl_un l i)
  rt := e.rt
  bk := fun Δ st' σ' I' H' h w s l => e.bk _ _ _ _ _ h w s (sl_un l i)
  ct := fun Δ st' σ' I' H' h w s l => e.ct _ _ _ _ _ h w s (sl_un l i)
  ex := fun _ _ _ _ _ _ _ _ z => z.elim
theorem isd_exc {K : PySem.W.Frag} {I H : Hp} {x : Xc} {cls : Value} {d : Option Addr} (xi : XIs K I H x cls d) (a : Addr) : IsD K I (.exc a d x.C x.fs) (.ref a) := by
  rcases xi.2 with ⟨e, e'⟩ | ⟨_, dd, vs, e1, e2, e3⟩
  · rw [e, e']; exact .exc0
  · rw [e1]; exact .exc e2 e3
theorem lowS_tryN {K : PySem.W.Frag} {W : WX} {cl : List DCl} {body : DS} : ∀ D σ H, lowS K (dTryN K cl body) W D σ H → lowS K body (wCls K W D (cl.map (lowC K))) D σ H := by
  rintro D σ H ⟨Δ, st, I, N, wd, sl, h, e⟩
  refine lowS_go wd sl h ⟨e.nx, e.rt, e.bk, e.ct, fun x Δ' st' cls d σ' I' H' h' w' s' l' xi => ?_⟩
  clear h
  induction cl with
  | nil => exact e.ex _ _ _ _ _ _ _ _ h' w' s' l' xi
  | cons l r ih =>
    obtain ⟨b, hb, h1, h2⟩ := h'
    refine ⟨b, by rw [xi.1]; exact hb, fun hb a ha => ?_, fun hb => ih (h2 hb)⟩
    have q := h1 hb a d fun e => xi.2.elim (fun z => z.2) fun z => absurd e z.1
    obtain ⟨c, o, u⟩ := l
    have ec := xi.1
    subst ec
    cases o with
    | none => exact lowS_go w' l' q (ends_calm (e.go s'))
    | some i => exact lowS_go w' (l'.set (.dat (isd_exc xi a))) q (ends_shut (e.go s'))
/-- a suite's derivation -/
abbrev SuD (X : Cx) (sl : List Stmt) (u : Addr → Value → Option Addr → DS) : Prop := ∀ (a : Addr) (oe : Obj) (cls : Value) (d : Option Addr) (pn : List (Addr × Obj)), Zc cls d oe → (∃ vs, oe.data = .fields vs) → PBd (X.suite a ((a, oe) :: pn)) W0 sl (u a cls d)
inductive ClD (X : Cx) : List ExceptHandler → List DCl → Prop
  | nil : ClD X [] []
  | bare {x : Str} {c : Value} {u : Addr → Value → Option Addr → DS} {b : Stmt} {su : List Stmt} {p q : Pos} {hs : List ExceptHandler} {l : List DCl} (n : Names X x c) (s : SuD X (b :: su) u) (r : ClD X hs l) : ClD X (.ExceptHandler (some (.Name x p)) none (b :: su) q :: hs) ((c, none, u) :: l)
  | as {x y : Str} (i : Nat) {c : Value} {u : Addr → Value → Option Addr → DS} {b : Stmt} {su : List Stmt} {p q : Pos} {hs : List ExceptHandler} {l : List DCl} (n : Names X x c) (s : SuD X (b :: su) u) (r : ClD X hs l) (hi : X.N[i]? = some y := by rfl) (hl : X.env.kindOf y = some .local := by rfl) :
      ClD X (.ExceptHandler (some (.Name x p)) (some y) (b :: su) q :: hs) ((c, some i, u) :: l)
theorem ClD.low {X : Cx} {hs : List ExceptHandler} {l : List DCl} (h : ClD X hs l) : Cls_ X hs (l.map (lowC X.K)) := by
  induction h with
  | nil => exact .nil
  | bare n s r ih => exact .bare n s ih
  | as i n s r hi hl ih => exact .as hi hl n s ih
theorem named {X : Cx} {x : Str} {c : Value} (hm : X.mg x = some c) (hg : Gl X x := by rfl) (hd : (x == ("__debug__" : Str)) = false := by decide) : Names X x c := ⟨hg, hd, .inl hm⟩
theorem stryN {X : Cx} {W : WX} (K : PySem.W.Frag) {h₀ : ExceptHandler} {hds : List ExceptHandler} {cl : List DCl} {body : List Stmt} {pos : Pos} {t : DS} (hN : X.N.Nodup) (tk : Takes X W)
    (hb : ∀ (V : WX) (pn : List (Addr × Obj)) (xe : Value → Shared → Prop), Takes (X.tr pn xe) V → PassesOwn (model X.prog X.w) X.A X.env xe → PBd (X.tr pn xe) V body t)
    (hh : ClD X (h₀ :: hds) cl) (hst : X.stack = X.env :: X.outer := by rfl) (hfr : X.env.frame = some X.env.locals := by rfl) (hK : X.K = K := by rfl) : PSd X W (.Try body (h₀ :: hds) [] [] pos) (dTryN K cl t) := by
  subst hK
  exact PS.imp (ps_try_cls (tb := fun V => lowS X.K t V) hst hfr hN tk hb hh.low) lowS_tryN
end DD
namespace DD
open PySem PySem.Spec PyProof.Rows L2
def dOr2 (t u : DE) : DE := fun Δ st ok ex => t Δ st ok ex ∨ u Δ st ok ex
theorem deither {X : Cx} {W : WX} {e : Expr} {t u : DE} (h1 : PEd X W e t) (h2 : PEd X W e u) : PEd X W e (dOr2 t u) := ⟨fun pins s σ H Q I h => by
  obtain ⟨Δ, st, I0, ok, ex, wd, sl, h | h, c, cx⟩ := h
  · exact h1.run pins s σ H Q I ⟨Δ, st, I0, ok, ex, wd, sl, h, c, cx⟩
  · exact h2.run pins s σ H Q I ⟨Δ, st, I0, ok, ex, wd, sl, h, c, cx⟩⟩
theorem fn_none {P : Program} {w : World} {K : PySem.W.Frag} {mg : Str → Option Value} {base : Heap} {f : Addr} {fd : FuncData} {ps : List Str} {ct : Ct} (h : ∀ ss st ok ex, ct ss st ok ex → False) : FnOk P w K mg base (L2.CX P w) 0 f fd ps (lowF K ct) where
  len := fun vs H Q E ⟨_, _, _, _, _, _, _, z, _⟩ => (h _ _ _ _ z).elim
  run := fun A outer s H args us vs Q E _ _ _ _ ⟨_, _, _, _, _, _, _, z, _⟩ => (h _ _ _ _ z).elim
end DD
namespace DD
open PySem PySem.Spec PyProof.Rows L2
/-- a class below ValueError without an __init__ of its own -/
abbrev ValX (K : PySem.W.Frag) (C : Addr) : Prop := PySem.W.excIn K C [.type "ValueError", .type "Exception", .type "BaseException", .type "object"] "ValueError.__new__" = true
/-- what is asked of booleans -/
theorem no_d {α : Type} {a : α} {i : Decidable (a = a)} {Q : Prop} (h : @decide (a = a) i = false) : Q := absurd rfl (of_decide_eq_false h)
theorem no_nd {α : Type} {a : α} {i : Decidable (a = a)} {Q : Prop} (h : (!(@decide (a = a) i)) = true) : Q := no_d (i := i) (by cases e : @decide (a = a) i <;> simp_all)
def dPub (t : DE) : DE := fun Δ st ok ex => t Δ st (fun s st1 => ∃ s' st2, Fin s st1 s' st2 ∧ ok s' st2) ex
theorem dpub {X : Cx} {W : WX} {e : Expr} {t : DE} (h : PEd X W e t) : PEd X W e (dPub t) := PE.imp h fun σ H Q q => by
  obtain ⟨Δ, st, I, ok, ex, wd, sl, h, c, cx⟩ := q
  refine low_go wd sl h (fun x st1 v I1 H1 h1 w1 s1 i1 => ?_) cx
  obtain ⟨s', st2, f, h2⟩ := h1
  obtain ⟨I2, w2, s2, i2⟩ := fin_ok w1 s1 i1 f
  exact c _ _ _ _ _ h2 w2 s2 i2
def dPar (i j : Nat) (t : DA) : DS := fun Δ st N => t Δ st (fun xs st1 => match xs with
  | [x, y] => N.nx ((Δ.set i x).set j y) st1
  | _ => False) (exAt N Δ)
def dPar3 (i j l : Nat) (t : DA) : DS := fun Δ st N => t Δ st (fun xs st1 => match xs with
  | [x, y, z] => N.nx (((Δ.set i x).set j y).set l z) st1
  | _ => False) (exAt N Δ)
theorem lowS_par {K : PySem.W.Frag} {W : WX} {i j : Nat} {t : DA} : ∀ D σ H, lowS K (dPar i j t) W D σ H → tPar i j (lowA K t W) D σ H := by
  rintro D σ H ⟨Δ, st, I, N, wd, sl, h, e⟩
  refine lowA_go wd sl h (fun xs st1 vs I1 H1 h1 w1 s1 i1 => ?_) (cx_of sl e)
  split at h1
  · cases i1 with
    | cons a i1 =>
      cases i1 with
      | cons b i1 =>
        cases i1
        exact ⟨_, _, rfl, e.nx _ _ _ _ _ h1 w1 s1 (((sl.mono s1.ii).set a).set b)⟩
  · exact h1.elim
theorem spar {X : Cx} {W : WX} {x y : Str} {a b : Expr} {t : DA} {px py pt pos pt2 : Pos} {kt k2 : Nat} (i j : Nat) (hN : X.N.Nodup) (ha : PAd X W [a, b] t) (hc : X.calm = true := by rfl) (hi : X.N[i]? = some x := by rfl) (hj : X.N[j]? = some y := by rfl) (hij : i ≠ j := by decide)
    (hx : X.env.scope.names.lookup x = some .local := by rfl) (hy : X.env.scope.names.lookup y = some .local := by rfl) (hw : swappedStores [.Tuple [.Name x px, .Name y py] kt pt] (.Tuple [a, b] k2 pt2) X.env = pure (some [x, y]) := by rfl)
    (hs : swapsWithSole [.Tuple [.Name x px, .Name y py] kt pt] (.Tuple [a, b] k2 pt2) pos.line X.env = pure false := by rfl) : PSd X W (.Assign [.Tuple [.Name x px, .Name y py] kt pt] (.Tuple [a, b] k2 pt2) pos) (dPar i j t) :=
  PS.imp (ps_par hc hN hi hj hij hx hy ha hw hs) lowS_par
end DD
namespace DD
open PySem PySem.Spec PyProof.Rows L2
def NoFrz (X : Cx) (d : Addr) : Prop := ∀ o' u', X.H_0 d ≠ some (.frz o' u')
def Lk (X : Cx) (H : Hp) (P : Hp → Prop) : Prop := P H ∨ ∃ d od u, H d = some (.frz od u) ∧ NoFrz X d ∧ P (upd H d u)
theorem Lk.at_ {X : Cx} {pins : List (Addr × Obj)} {σ : L2.St} {H : Hp} {s : Shared} {P : Hp → Prop} (I : L2.Inv X pins σ H s) (h : Lk X H P) : ∃ H', L2.Inv X pins σ H' s ∧ P H' ∧ ∀ a, H a = none → H' a = none := by
  rcases h with h | ⟨d, od, u, e, n, h⟩
  · exact ⟨H, I, h, fun _ q => q⟩
  · exact ⟨_, I.unlock e n, h, fun a q => by rw [upd_ne (fun z => by rw [z, e] at q; cases q)]; exact q⟩
theorem pe_unl {X : Cx} {e : Expr} {t : TE} (h : PE X e t) : PE X e (fun σ H Q => t σ H fun v H' => Lk X H' (Q v)) :=
  ⟨fun pins s σ H Q I q => thn (h.run pins s σ H _ I q) fun v s1 ⟨x, H1, J, r, z⟩ => by
    obtain ⟨H2, J2, r2, _⟩ := z.at_ J
    exact ⟨x, H2, J2, r, r2⟩⟩
def lockE (X : Cx) (te : TE) : TE := fun σ H Q => te σ H fun x H1 => Q x H1 ∨ ∃ d u, H1 d = some u ∧ Mut (some u) ∧ ∀ od, NoFrz X d → Q x (upd H1 d (.frz od u))
theorem pe_lockE {X : Cx} {e : Expr} {t : TE} (h : PE X e t) : PE X e (lockE X t) :=
  ⟨fun pins s σ H Q I q => thn (h.run pins s σ H _ I q) fun v s1 ⟨x, H1, J, r, z⟩ => by
    rcases z with z | ⟨d, u, hd, mu, z⟩
    · exact ⟨x, H1, J, r, z⟩
    · obtain ⟨od, J2⟩ := J.lock hd mu
      exact ⟨x, _, J2, r, z od (J.nofrz hd mu)⟩⟩
section
variable {K : PySem.W.Frag} {st st' : Store} {I I' H H' : Hp}
theorem lock_w {a : Addr} {od : Obj} {u : HO} (w : Wd K st I H) (hu : (∃ k, u = .dK k) ∨ ∃ k, u = .dT k) (hI : I a = some u) (hH : H a = some u) : Wd K st I (upd H a (.frz od u)) := by
  refine ⟨fun b o h => ?_, fun p ob hp => ?_, w.nd⟩
  · by_cases e : b = a
    · subst e
      rw [hI] at h
      cases h
      exact .inr ⟨hu, od, upd_same⟩
    · rw [upd_ne e]
      exact w.sub b o h
  · obtain ⟨h1, o, h2, h3⟩ := w.own p ob hp
    have ne : p ≠ a := fun z => by rw [z, hI] at h1; cases h1
    exact ⟨h1, o, by rw [upd_ne ne]; exact h2, h3⟩
theorem notkey {a : Addr} {u : HO} (w : Wd K st I H) (hI : I a = some u) : a ∉ keys st := fun m => by
  obtain ⟨⟨p, ob⟩, h1, h2⟩ := List.mem_map.mp m
  have h2 : p = a := h2
  subst h2
  rw [(w.own p ob h1).1] at hI
  cases hI
theorem unlock_w {a : Addr} {od : Obj} {u : HO} (w : Wd K st I H) (hI : I a = some u) (hH : H a = some u) (w' : Wd K st' I' H') (s : Stp st I (upd H a (.frz od u)) st' I' H') :
    H' a = some (.frz od u) ∧ Wd K st' I' (upd H' a u) ∧ Stp st I H st' I' (upd H' a u) := by
  have hI' := s.ii a u hI
  refine ⟨s.hh a _ (notkey w hI) upd_same, ⟨fun b o h => ?_, fun p ob hp => ?_, w'.nd⟩, ⟨s.ii, fun b o hb h => ?_, fun b h => ?_, fun p h => ?_⟩⟩
  · by_cases e : b = a
    · subst e
      rw [hI'] at h
      cases h
      exact .inl upd_same
    · rw [upd_ne e]
      exact w'.sub b o h
  · obtain ⟨h1, o, h2, h3⟩ := w'.own p ob hp
    have ne : p ≠ a := fun z => by rw [z, hI'] at h1; cases h1
    exact ⟨h1, o, by rw [upd_ne ne]; exact h2, h3⟩
  · by_cases e : b = a
    · subst e
      rw [hH] at h
      cases h
      exact upd_same
    · rw [upd_ne e]
      exact s.hh b o hb (by rw [upd_ne e]; exact h)
  · rcases s.nw b h with q | q | q | ⟨vs, q⟩
    · exact .inl q
    · by_cases e : b = a
      · subst e
        rw [upd_same] at q
        cases q
      · rw [upd_ne e] at q
        exact .inr (.inl q)
    · exact .inr (.inr (.inl q))
    · by_cases e : b = a
      · subst e
        rw [upd_same] at q
        cases q
      · rw [upd_ne e] at q
        exact .inr (.inr (.inr ⟨vs, q⟩))
  · rcases s.ks p h with q | q
    · exact .inl q
    · by_cases e : p = a
      · subst e
        rw [upd_same] at q
        cases q
      · rw [upd_ne e] at q
        exact .inr q
theorem cont_U {X : Cx} {ok : OK} {Q : VK} (c : Cont K st I H ok Q) : Cont K st I H ok fun v H' => Lk X H' (Q v) := fun x st' v I' H' h w s i => .inl (c _ _ _ _ _ h w s i)
theorem cont_L {X : Cx} {ok : OK} {Q : VK} {a : Addr} {od : Obj} {u : HO} (c : Cont K st I H ok Q) (w : Wd K st I H) (hI : I a = some u) (hH : H a = some u) (nf : NoFrz X a) : Cont K st I (upd H a (.frz od u)) ok fun v H' => Lk X H' (Q v) := fun x st' v I' H' h w' s i => by
  obtain ⟨z, w2, s2⟩ := unlock_w w hI hH w' s
  exact .inr ⟨a, od, u, z, nf, c _ _ _ _ _ h w2 s2 i⟩
def dKey : Key → Dt
  | .inl i => .int i
  | .inr x => .str x
def keysD (ds : List (Key × Dt)) : List Sv := ds.map fun p => .dat (dKey p.1)
theorem isDk_len {I : Hp} : ∀ {ds : List (Key × Dt)} {vs : List (Key × V)}, IsDk K I ds vs → ds.length = vs.length
  | _, _, .nil => rfl
  | _, _, .cons _ r => congrArg Nat.succ (isDk_len r)
theorem isDk_at {I : Hp} : ∀ {ds : List (Key × Dt)} {vs : List (Key × V)} {i : Nat} {k : Key} {v : V}, IsDk K I ds vs → vs[i]? = some (k, v) → ∃ d, ds[i]? = some (k, d) ∧ IsD K I d v
  | _, _, 0, _, _, .cons h _, e => by
    cases e
    exact ⟨_, rfl, h⟩
  | _, _, i + 1, _, _, .cons _ r, e => by
    obtain ⟨d, h1, h2⟩ := isDk_at (i := i) r (by simpa using e)
    exact ⟨d, by simpa using h1, h2⟩
theorem wk_keys {a : Addr} {o : Obj} {ds : List (Key × Dt)} {vs : List (Key × V)} (w : Wd K st I H) (hk : a ∉ keys st) (h : H a = some (.frz o (.dK vs))) (hd : IsDk K I ds vs) : Wk K st I H (Itk a o vs) (keysD ds) := by
  refine ⟨_, _, by rw [keysD, List.length_map, isDk_len hd]; exact walk_keys, fun st2 I2 H2 w2 s2 => s2.hh a _ hk h, fun i H2 x H3 st2 I2 hi w2 s2 y => ?_⟩
  obtain ⟨rfl, k, v, hv, rfl⟩ := y
  obtain ⟨d, h1, _⟩ := isDk_at hd hv
  refine ⟨.dat (dKey k), I2, by rw [keysD, List.getElem?_map, h1]; rfl, w2, Stp.refl _ _ _, ?_⟩
  cases k with
  | inl i => exact .dat (.int i)
  | inr x => exact .dat (.str x)
def keysTD (ds : List (List Key × Dt)) : List Sv := ds.map fun p => .dat (.tup (p.1.map dKey))
theorem isDt_len {I : Hp} : ∀ {ds : List (List Key × Dt)} {vs : List (List Key × V)}, IsDt K I ds vs → ds.length = vs.length
  | _, _, .nil => rfl
  | _, _, .cons _ r => congrArg Nat.succ (isDt_len r)
theorem isDt_at {I : Hp} : ∀ {ds : List (List Key × Dt)} {vs : List (List Key × V)} {i : Nat} {k : List Key} {v : V}, IsDt K I ds vs → vs[i]? = some (k, v) → ∃ d, ds[i]? = some (k, d) ∧ IsD K I d v
  | _, _, 0, _, _, .cons h _, e => by
    cases e
    exact ⟨_, rfl, h⟩
  | _, _, i + 1, _, _, .cons _ r, e => by
    obtain ⟨d, h1, h2⟩ := isDt_at (i := i) r (by simpa using e)
    exact ⟨d, by simpa using h1, h2⟩
theorem keys_isD {I : Hp} : ∀ ks : List Key, IsDs K I (ks.map dKey) (ks.map kV)
  | [] => .nil
  | .inl i :: ks => .cons (.int i) (keys_isD ks)
  | .inr x :: ks => .cons (.str x) (keys_isD ks)
theorem wk_keysT {a : Addr} {o : Obj} {ds : List (List Key × Dt)} {vs : List (List Key × V)} (w : Wd K st I H) (hk : a ∉ keys st) (h : H a = some (.frz o (.dT vs))) (hd : IsDt K I ds vs) : Wk K st I H (Itkt a o vs) (keysTD ds) := by
  refine ⟨_, _, by rw [keysTD, List.length_map, isDt_len hd]; exact walk_keysT, fun st2 I2 H2 w2 s2 => s2.hh a _ hk h, fun i H2 x H3 st2 I2 hi w2 s2 y => ?_⟩
  obtain ⟨rfl, k, v, q, hv, rfl, hq⟩ := y
  obtain ⟨d, h1, _⟩ := isDt_at hd hv
  obtain ⟨w3, s3⟩ := know_tup w2 hq
  exact ⟨.dat (.tup (k.map dKey)), _, by rw [keysTD, List.getElem?_map, h1]; rfl, w3, s3, .dat (.tup (.inl upd_same) (keys_isD k))⟩
/-- [.. for k in d ..] -/
def dLcK (te : DE) (g : DG) (tt : DT) (el : DE) (vs : List Nat) : DE := fun Δ st ok ex => te Δ st (fun x st1 => match x with
  | .dat (.dic ds) => lcD g tt el vs (keysD ds) Δ st1 ok
  | .dat (.dtt ds) => lcD g tt el vs (keysTD ds) Δ st1 ok
  | _ => False) ex
theorem low_lcK {X : Cx} {W : WX} {te el : DE} {g : DG} {tt : DT} {ns : List Nat} : ∀ σ H Q, low K (dLcK te g tt el ns) W σ H Q → tLc (iKeys (lockE X (low K te W))) (lowGw K ns g) (lowT K tt W0) (low K el W0) ns σ H fun v H' => Lk X H' (Q v) := by
  rintro σ H Q ⟨Δ, st, I, ok, ex, wd, sl, h, c, cx⟩
  refine low_go wd sl h (fun x st1 v I1 H1 h1 w1 s1 i1 => ?_) cx
  cases i1 with
  | own p => exact h1.elim
  | dat hd =>
    cases hd with
    | dic r hk =>
      rename_i ds vs a
      have c1 := c.go s1
      have l1 := sl.mono s1.ii
      rcases w1.sub.rd r with hH | ⟨o, hH⟩
      · rcases r with hI | ⟨o, hI⟩
        · refine .inr ⟨a, _, hH, trivial, fun od nf => ⟨a, od, rfl, .inl ⟨vs, upd_same, ?_⟩⟩⟩
          have w2 := lock_w (od := od) w1 (.inl ⟨_, rfl⟩) hI hH
          exact lc_go w2 l1 h1 (wk_keys w2 (notkey w1 hI) upd_same hk) (cont_L c1 w1 hI hH nf)
        · rcases w1.sub a _ hI with q | ⟨q | q, _⟩
          · rw [hH] at q; cases q
          · obtain ⟨_, q⟩ := q; cases q
          · obtain ⟨_, q⟩ := q; cases q
      · have nk : a ∉ keys st1 := by
          rcases r with hI | ⟨o, hI⟩
          · exact notkey w1 hI
          · exact notkey w1 hI
        exact .inl ⟨a, o, rfl, .inl ⟨vs, hH, lc_go w1 l1 h1 (wk_keys w1 nk hH hk) (cont_U c1)⟩⟩
    | dtt r hk =>
      rename_i ds vs a
      have c1 := c.go s1
      have l1 := sl.mono s1.ii
      rcases w1.sub.rd r with hH | ⟨o, hH⟩
      · rcases r with hI | ⟨o, hI⟩
        · refine .inr ⟨a, _, hH, trivial, fun od nf => ⟨a, od, rfl, .inr ⟨vs, upd_same, ?_⟩⟩⟩
          have w2 := lock_w (od := od) w1 (.inr ⟨_, rfl⟩) hI hH
          exact lc_go w2 l1 h1 (wk_keysT w2 (notkey w1 hI) upd_same hk) (cont_L c1 w1 hI hH nf)
        · rcases w1.sub a _ hI with q | ⟨q | q, _⟩
          · rw [hH] at q; cases q
          · obtain ⟨_, q⟩ := q; cases q
          · obtain ⟨_, q⟩ := q; cases q
      · have nk : a ∉ keys st1 := by
          rcases r with hI | ⟨o, hI⟩
          · exact notkey w1 hI
          · exact notkey w1 hI
        exact .inl ⟨a, o, rfl, .inr ⟨vs, hH, lc_go w1 l1 h1 (wk_keysT w1 nk hH hk) (cont_U c1)⟩⟩
    | _ => exact h1.elim
end
theorem dlcK {X : Cx} {W : WX} {elt tg iter : Expr} {ifs : List Expr} {scope : Scope} {pos : Pos} {ti te : DE} {g : DG} {tt : DT} (own : List (Str × Nat)) (hN : X.N.Nodup) (hi : PEd X W iter ti) (ok : BlkOk X.N X.env.scope scope own)
    (hg : ∀ (s : Shared) (H : Hp) (C : Addr) (cl : List (Str × Addr)) (fp : List Addr), PGw (X.blk s H scope (compEnvC scope cl C X.env) fp) (own.map (·.2)) tg g) (ht : ∀ (s : Shared) (H : Hp) (C : Addr) (cl : List (Str × Addr)) (fp : List Addr), PTsd (X.blk s H scope (compEnvC scope cl C X.env) fp) ifs tt)
    (he : ∀ (s : Shared) (H : Hp) (C : Addr) (cl : List (Str × Addr)) (fp : List Addr), PEd (X.blk s H scope (compEnvC scope cl C X.env) fp) W0 elt te) (hc : X.calm = true := by rfl) (hs : ∀ x, foldedSetIterable iter X.env x = pure x := by intro _; rfl) :
    PEd X W (.ListComp elt [⟨tg, iter, ifs, 0⟩] scope pos) (dLcK ti g tt te (own.map (·.2))) := PE.imp (pe_unl (pe_lc hc hN (pi_keys (pe_lockE hi)) ok hg ht he hs)) low_lcK
end DD
namespace DD
open PySem PySem.Spec PyProof.Rows L2
section
variable {K : PySem.W.Frag}
def rSortK : List V → Hp → VK → Prop := fun xs H Q => ∃ (a : Addr) (kvs : List (Key × V)) (ks : List Str), xs = [.ref a] ∧ Rd H a (.dK kvs) ∧ kvs.map (·.1) = ks.map Sum.inr ∧ ks.length < 64 ∧
    ∀ ys p, ys.Perm ks → sortedS ys = true → H p = none → Q (.ref p) (upd H p (.lst (ys.map V.str)))
/-- sorted(d), the keys texts -/
def gSortK : GC := fun xs st ok => match xs with
  | [x] => withK x st fun kvs => ∃ ks : List Str, kvs.map (·.1) = ks.map Sum.inr ∧ ks.length < 64 ∧ ∀ ys : List Str, ys.Perm ks → sortedS ys = true → ok (.dat (.lst (ys.map Dt.str))) st
  | _ => False
theorem rk_keys {I : Hp} : ∀ {kvs : List (Key × Sv)} {vs : List (Key × V)}, Paired (RK K I) kvs vs → kvs.map (·.1) = vs.map (·.1)
  | _, _, .nil => rfl
  | _, _, .cons r t => by
    rw [List.map_cons, List.map_cons, rk_keys t, r.1]
theorem strs_is {I : Hp} : ∀ ys : List Str, IsDs K I (ys.map Dt.str) (ys.map V.str)
  | [] => .nil
  | y :: ys => .cons (.str y) (strs_is ys)
theorem lc_sortK : LRC (K := K) rSortK gSortK := by
  intro xs st I H ok Q vs wd ix h c
  unfold gSortK at h
  split at h
  · obtain ⟨v, rfl, i⟩ := one_of rfl ix
    obtain ⟨a, us, kvs, rfl, hd, hp, ks, e1, e2, h⟩ := withK_rd wd i h
    refine ⟨a, us, ks, rfl, hd, by rw [← rk_keys hp]; exact e1, e2, fun ys p h1 h2 hq => ?_⟩
    obtain ⟨w2, s2⟩ := new_known (o := .lst (ys.map V.str)) wd hq
    exact c _ _ _ _ _ (h ys h1 h2) w2 s2 (.dat (.lst upd_same (strs_is ys)))
  · exact h.elim
end
end DD
namespace DD
open PySem PySem.Spec PyProof.Rows L2
theorem any_it {J : It} {n : Nat} {G : Hp → Prop} {Y : Nat → Hp → V → Hp → Prop} (w : Walk J n G Y) {H0 : Hp} {Qd : Hp → Prop} {B : (Hp → Prop) → V → Hp → Prop} (P : Nat → Hp → Prop) (h0 : P 0 H0) (hG : ∀ i H, P i H → G H)
    (hs : ∀ i x H H', i < n → P i H → Y i H x H' → B (P (i + 1)) x H') (hd : ∀ H, P n H → Qd H) :
    ∃ W : Nat → Nat → Hp → Prop, (∃ m, W 0 m H0) ∧ ∀ i m H, W i m H → (J.stop i H ∧ Qd H) ∨ (J.go i H ∧ ∃ N : Hp → Prop, (∀ H', N H' → ∃ m', m' < m ∧ W (i + 1) m' H') ∧ ∀ x H', J.yld i H x H' → B N x H') := by
  refine ⟨fun i m H => m + i = n ∧ P i H, ⟨n, rfl, h0⟩, fun i m H ⟨e, p⟩ => ?_⟩
  cases m with
  | zero =>
    have e : i = n := by omega
    subst e
    exact .inl ⟨w.stops H (hG _ _ p), hd H p⟩
  | succ m =>
    have l : i < n := by omega
    exact .inr ⟨w.goes i H l (hG _ _ p), P (i + 1), fun H' q => ⟨m, Nat.lt_succ_self m, by omega, q⟩, fun x H' y => hs i x H H' l p (w.yields i H x H' l (hG _ _ p) y)⟩
@[irreducible] def dcD (g : DG) (tt : DT) (tk tv : DE) (vs : List Nat) (xs : List Sv) (Δ : List Sv) (st1 : Store) (ok : OK) : Prop := ∀ D, D ∉ keys st1 → ∃ J : Nat → List (Key × Sv) → Store → Prop, J 0 [] st1 ∧
  (∀ i d acc st', xs[i]? = some d → J i acc st' → D ∉ keys st' → g d (wipeD Δ vs) ((D, .dic acc) :: st') fun Δ2 st2 => tt Δ2 st2 (fun b st3 =>
    (b = true → tk Δ2 st3 (fun y st4 => tv Δ2 st4 (fun z st5 => ∃ dy k acc' st6, y = .dat dy ∧ keyD dy = some k ∧ st5 = (D, .dic acc') :: st6 ∧ acc'.length < sizeLine ∧ J (i + 1) (putD acc' k z) st6) fun _ _ => False) fun _ _ => False) ∧
    (b = false → ∃ acc' st5, st3 = (D, .dic acc') :: st5 ∧ J (i + 1) acc' st5)) fun _ _ => False) ∧
  ∀ acc st', J xs.length acc st' → ∃ ds, AllK acc ds ∧ ok (.dat (.dic ds)) st'
theorem dcD_eq (g : DG) (tt : DT) (tk tv : DE) (vs : List Nat) (xs : List Sv) (Δ : List Sv) (st1 : Store) (ok : OK) : dcD g tt tk tv vs xs Δ st1 ok = (∀ D, D ∉ keys st1 → ∃ J : Nat → List (Key × Sv) → Store → Prop, J 0 [] st1 ∧
  (∀ i d acc st', xs[i]? = some d → J i acc st' → D ∉ keys st' → g d (wipeD Δ vs) ((D, .dic acc) :: st') fun Δ2 st2 => tt Δ2 st2 (fun b st3 =>
    (b = true → tk Δ2 st3 (fun y st4 => tv Δ2 st4 (fun z st5 => ∃ dy k acc' st6, y = .dat dy ∧ keyD dy = some k ∧ st5 = (D, .dic acc') :: st6 ∧ acc'.length < sizeLine ∧ J (i + 1) (putD acc' k z) st6) fun _ _ => False) fun _ _ => False) ∧
    (b = false → ∃ acc' st5, st3 = (D, .dic acc') :: st5 ∧ J (i + 1) acc' st5)) fun _ _ => False) ∧
  ∀ acc st', J xs.length acc st' → ∃ ds, AllK acc ds ∧ ok (.dat (.dic ds)) st') := by
  unfold dcD
  rfl
section
variable {K : PySem.W.Frag} {W : WX} {st : Store} {I H : Hp}
theorem dc_go {g : DG} {tt : DT} {tk tv : DE} {vs : List Nat} {Δ : List Sv} {ok : OK} {σ : L2.St} {Q : VK} {J : It} {xs : List Sv} (w1 : Wd K st I H) (sl : Sl K Δ I σ) (h1 : dcD g tt tk tv vs xs Δ st ok) (k1 : Wk K st I H J xs) (c : Cont K st I H ok Q) (D : Addr) (hD : H D = none) :
    ∃ W : Nat → Nat → Hp → Prop, (∃ m, W 0 m (upd H D (.dK []))) ∧ ∀ i m H, W i m H →
  (J.stop i H ∧ Q (.ref D) H) ∨ (J.go i H ∧ ∃ Nx : Hp → Prop, (∀ H', Nx H' → ∃ m', m' < m ∧ W (i + 1) m' H') ∧ ∀ x H', J.yld i H x H' → lowGw K vs g x (wipe σ vs) H' fun σ2 H2 => wipe σ2 vs = wipe σ vs ∧ lowT K tt W0 σ2 H2 fun b H3 =>
    if b = true then low K tk W0 σ2 H3 fun y H4 => low K tv W0 σ2 H4 fun z H5 => ∃ kvs k, y = kV k ∧ H5 D = some (.dK kvs) ∧ kvs.length < sizeLine ∧ Nx (upd H5 D (.dK (putK kvs k z))) else Nx H3) := by
  obtain ⟨np, w2, s2⟩ := new_own (o := .dK []) (ob := .dic []) w1 hD (.dic .nil)
  rw [dcD_eq] at h1
  obtain ⟨Jv, j0, jt, je⟩ := h1 D np
  obtain ⟨G, Y, wk, hg, hy⟩ := k1.w
  refine any_it wk (B := fun Nx x H' => lowGw K vs g x (wipe σ vs) H' fun σ2 H2 => wipe σ2 vs = wipe σ vs ∧ lowT K tt W0 σ2 H2 fun b H3 => if b = true then low K tk W0 σ2 H3 fun y H4 => low K tv W0 σ2 H4 fun z H5 => ∃ kvs k, y = kV k ∧ H5 D = some (.dK kvs) ∧ kvs.length < sizeLine ∧ Nx (upd H5 D (.dK (putK kvs k z))) else Nx H3)
    (fun i H' => ∃ acc st' I', Jv i acc st' ∧ Wd K ((D, .dic acc) :: st') I' H' ∧ Stp st I H ((D, .dic acc) :: st') I' H') ⟨[], st, I, j0, w2, s2⟩ (fun i H' ⟨_, _, I', _, w', s'⟩ => hg _ I' H' w' s') ?_ ?_
  · rintro i x H' H3 hi ⟨acc, st', I', hj, w', s'⟩ y
    obtain ⟨d, I3, hd, w3, s3, ix⟩ := hy i H' x H3 _ I' hi w' s' y
    have t3 := s'.trans s3
    refine ⟨d, _, _, I3, _, w3, sl_wipe (sl.mono t3.ii) vs, ix, jt i d acc st' hd hj (List.nodup_cons.mp w'.nd).1, fun Δ4 st4 σ4 I4 H4 h4 w4 s4 l4 e4 => ⟨by rw [e4, wipe_wipe], ?_⟩⟩
    have t4 := t3.trans s4
    refine lowT_go w4 l4 h4 (fun b st5 I5 H5 h5 w5 s5 => ?_) (fun _ _ _ _ _ _ z => z.elim)
    have t5 := t4.trans s5
    cases b with
    | false =>
      refine iteF ?_
      obtain ⟨acc', st7, rfl, hj'⟩ := h5.2 rfl
      exact ⟨acc', st7, I5, hj', w5, t5⟩
    | true =>
      refine iteT (low_go w5 (l4.mono s5.ii) (h5.1 rfl) (fun y st6 u I6 H6 h6 w6 s6 i6 => ?_) (fun _ _ _ _ _ _ z => z.elim))
      refine low_go w6 (l4.mono (s5.ii.trans s6.ii)) h6 (fun z st7 u2 I7 H7 h7 w7 s7 i7 => ?_) (fun _ _ _ _ _ _ z => z.elim)
      obtain ⟨dy, k, acc', st8, rfl, hk, rfl, hl, hj'⟩ := h7
      obtain ⟨_, o, ho, io⟩ := w7.own D _ List.mem_cons_self
      cases io with
      | @dic _ ws hs =>
        cases i6 with
        | dat i6 =>
          obtain ⟨w9, s9⟩ := set_own (j := 0) (o' := .dK (putK ws k u2)) (ob' := .dic (putD acc' k z)) w7 rfl (.dic (rk_putD i7 hs))
          exact ⟨ws, k, key_is i6 hk, ho, by rw [← paired_len hs]; exact hl, putD acc' k z, st8, I7, hj', w9, ((t5.trans s6).trans s7).trans s9⟩
  · rintro H' ⟨acc, st', I', hj, w', s'⟩
    obtain ⟨ds, ha, hok⟩ := je _ _ hj
    obtain ⟨_, o, ho, io⟩ := w'.own D _ List.mem_cons_self
    cases io with
    | dic hs =>
      obtain ⟨w9, s9, e9⟩ := pub_head w' ho s'
      exact c _ _ _ _ _ hok w9 s9 (.dat (.dic (.inl upd_same) ((isDk_of ha hs).mono e9)))
def dDc (it : DI) (g : DG) (tt : DT) (tk tv : DE) (vs : List Nat) : DE := fun Δ st ok ex => it Δ st (fun xs st1 => dcD g tt tk tv vs xs Δ st1 ok) ex
theorem low_dc {it : DI} {g : DG} {tt : DT} {tk tv : DE} {vs : List Nat} : ∀ σ H Q, low K (dDc it g tt tk tv vs) W σ H Q → tDc (lowI K it W) (lowGw K vs g) (lowT K tt W0) (low K tk W0) (low K tv W0) vs σ H Q := by
  rintro σ H Q ⟨Δ, st, I, ok, ex, wd, sl, h, c, cx⟩
  exact ⟨Δ, st, I, _, _, wd, sl, h, fun xs st1 I1 H1 J h1 w1 s1 k1 D hD => dc_go w1 (sl.mono s1.ii) h1 k1 (c.go s1) D hD, cx⟩
end
theorem ddc {X : Cx} {W : WX} {kx vx tg iter : Expr} {ifs : List Expr} {scope : Scope} {pos : Pos} {it : DI} {tk tv : DE} {g : DG} {tt : DT} (own : List (Str × Nat)) (hN : X.N.Nodup) (hi : PId X W tg iter it) (ok : BlkOk X.N X.env.scope scope own)
    (hg : ∀ (s : Shared) (H : Hp) (C : Addr) (cl : List (Str × Addr)) (fp : List Addr), PGw (X.blk s H scope (compEnvC scope cl C X.env) fp) (own.map (·.2)) tg g) (ht : ∀ (s : Shared) (H : Hp) (C : Addr) (cl : List (Str × Addr)) (fp : List Addr), PTsd (X.blk s H scope (compEnvC scope cl C X.env) fp) ifs tt)
    (hk : ∀ (s : Shared) (H : Hp) (C : Addr) (cl : List (Str × Addr)) (fp : List Addr), PEd (X.blk s H scope (compEnvC scope cl C X.env) fp) W0 kx tk) (he : ∀ (s : Shared) (H : Hp) (C : Addr) (cl : List (Str × Addr)) (fp : List Addr), PEd (X.blk s H scope (compEnvC scope cl C X.env) fp) W0 vx tv)
    (hc : X.calm = true := by rfl) (hs : ∀ x, foldedSetIterable iter X.env x = pure x := by intro _; rfl) : PEd X W (.DictComp kx vx [⟨tg, iter, ifs, 0⟩] scope pos) (dDc it g tt tk tv (own.map (·.2))) := PE.imp (pe_dc hc hN hi ok hg ht hk he hs) low_dc
end DD
namespace DD
open PySem PySem.Spec PyProof.Rows L2
open AutoSeq1 (wpAny_loadPart') in
theorem tup_new_src {prog : Program} {w : World} {r d : Addr} {n : Nat} {P : Nat → Value → Prop} {OK : Heap → Prop} (S : PySem.W.KdlSrc prog w "dict" r d n P OK) (hn : n ≤ sizeLine) :
    MeetsIn prog w (Builtin.«tuple.__new__» ⟨[.type "tuple", .ref r], []⟩) (fun A R s => A.handled = none ∧ OK s.heap ∧ (∃ o, s.heap.get? r = some o ∧ o.cls = .type "dict") ∧ ∀ (h' : Heap) (tk : Nat) (acc : Array Value), (∀ b o, s.heap.get? b = some o → h'.get? b = some o) → ItemsOf P acc n →
      R (.ok (.ret (.ref h'.objs.size))) { s with heap := h'.push { cls := .type "tuple", data := .seq acc }, toks := tk }) :=
  .of_wp fun A R s h => by
    obtain ⟨hp, g, dr, tk, os⟩ := s
    obtain ⟨hh, hok, ⟨o, ho, hc⟩, h⟩ := h
    have hsub := PySem.sub_tuple_self
    have hinit := PySem.init_tuple_lookup
    have hmh := PySem.madeHere_tuple
    have hT : Shared.TypeIs ⟨hp, g, dr, tk, os⟩ (.ref r) "dict" := S.type ⟨hp, g, dr, tk, os⟩ hok
    wp_walk using wpAny_loadPart' ho, wpAny_typeOf hT, PySem.W.kdu_collect (A := A.in1) S hh hok hn
    intro h' tk' acc hk items
    show wpAny _ _ (Builtin.Tuple.tupleExact acc.toList.toArray >>= fun v => ret v) _ _ _
    unfold Builtin.Tuple.tupleExact
    refine wpAny_bind (wpAny_newObj_type ?_ (by show acc.toList.toArray.size ≤ sizeLine; rw [Array.toArray_toList, items.1]; exact hn))
    refine wpAny_pure ⟨_, rfl, ?_⟩
    rw [Array.toArray_toList]
    exact h h' tk' acc hk items
def rTupK : List V → Hp → VK → Prop := fun xs H Q => ∃ p kvs, xs = [.ref p] ∧ Rd H p (.dK kvs) ∧ ∀ q, H q = none → Q (.ref q) (upd H q (.tup (kvs.map fun kv => kV kv.1)))
theorem call_tupleK {X : Cx} (hc : X.calm = true) : CallR X (.type "tuple") rTupK := by
  intro pins s σ H xs us Q I r h
  obtain ⟨p, kvs, e, hk, q⟩ := h
  subst e
  obtain ⟨u, eu, rx⟩ := vals1 r
  subst eu
  have eu : u = Value.ref p := rx
  subst eu
  obtain ⟨z, lo, vs, rk, hd⟩ : ObjOk X.prog X.w H s.heap p (.dK kvs) := hk.ok I.hok
  obtain ⟨ep, hat⟩ := hd.dictAt
  have hl : kvs.length = vs.length := Paired.length rk
  obtain ⟨o, ho, hco⟩ : ∃ o, s.heap.get? p = some o ∧ o.cls = .type "dict" := hd.typeIs
  refine PySem.callType_newIn PySem.F.called_tuple (by decide) (PySem.F.typeCall_tuple_1 _) (PySem.F.newCall_tuple_1 _) (fun obj => PySem.F.args_object_init_2 obj _) PySem.F.entry_tuple_new
    (tup_new_src (PySem.W.kdl_dict (knd := mixKind X.prog X.w) (kvs := vs) (ep := ep) lo) (by rw [← hl]; exact z)) ⟨I.ok.hd hc, hat, ⟨o, ho, hco⟩, fun h' tk acc keep items => ⟨⟨_, Heap.get?_push_size _ rfl, rfl⟩, ?_⟩⟩
  have rel : Vals (kvs.map fun kv => kV kv.1) acc.toList := by
    have e0 : acc.toList.length = kvs.length := by rw [Array.length_toList, items.1, hl]
    apply vals_of_at (by rw [List.length_map]; exact e0.symm)
    intro j x w h1 h2
    obtain ⟨k, y, hky, hi⟩ := items.2 j w (by rw [← Array.getElem?_toList]; exact h2)
    have e1 : (kvs.map (·.1))[j]? = some k := by rw [KV.keys rk, List.getElem?_map, hky]; rfl
    have e2 : (kvs.map fun kv => kV kv.1)[j]? = some (kV k) := by
      have e3 : (kvs.map fun kv => kV kv.1) = (kvs.map (·.1)).map kV := by rw [List.map_map]; rfl
      rw [e3, List.getElem?_map, e1]
      rfl
    rw [e2] at h1
    cases h1
    exact keyIs_rel hi
  have I1 : L2.Inv X pins σ H { s with heap := h', toks := tk } := I.kept keep
  have I2 := I1.laid (t' := tk) (h' := h'.push { cls := .type "tuple", data := .seq acc }) (a := h'.objs.size) (fun b o e => Heap.get?_push_of_some _ e) (Nat.le_refl _)
    (show ObjOk X.prog X.w _ _ _ (.tup (kvs.map fun kv => kV kv.1)) from ⟨by rw [List.length_map]; exact z, acc.toList, rel, by rw [Array.toArray_toList]; exact IsTup.new h' acc⟩)
  exact ⟨.ref h'.objs.size, _, I2, rfl, q _ (I1.hok.fresh (Nat.le_refl _))⟩
section
variable {K : PySem.W.Frag}
def gTupK : GC := fun xs st ok => match xs with
  | [x] => withK x st fun kvs => ok (.dat (.tup (kvs.map fun kv => match kv.1 with | .inl i => .int i | .inr z => .str z))) st
  | _ => False
theorem lc_tupK : LRC (K := K) rTupK gTupK := by
  intro xs st I H ok Q vs wd ix h c
  unfold gTupK at h
  split at h
  · obtain ⟨v, rfl, i⟩ := one_of rfl ix
    obtain ⟨a, us, kvs, rfl, hd, hp, h⟩ := withK_rd wd i h
    refine ⟨a, us, rfl, hd, fun q hq => ?_⟩
    obtain ⟨w2, s2⟩ := new_known (o := .tup (us.map fun kv => kV kv.1)) wd hq
    exact c _ _ _ _ _ h w2 s2 (.dat (.tup (.inl upd_same) (keys_rel hp _)))
  · exact h.elim
end
end DD
namespace DD
open PySem PySem.Spec PyProof.Rows L2
def dNeg (t : DE) : DE := fun Δ st ok ex => t Δ st (fun s st1 => match s with
  | .dat (.int i) => ok (.dat (.int (-i))) st1
  | _ => False) ex
theorem low_neg {K : PySem.W.Frag} {W : WX} {t : DE} : ∀ σ H Q, low K (dNeg t) W σ H Q → tUn (rU fun i => .int (-i)) (low K t W) σ H Q := by
  rintro σ H Q ⟨Δ, st, I, ok, ex, wd, sl, h, c, cx⟩
  refine low_go wd sl h (fun x st1 v I1 H1 h1 w1 s1 i1 => ?_) cx
  cases i1 with
  | own p => exact h1.elim
  | dat hd =>
    cases hd with
    | int i => exact ⟨i, rfl, (c.go s1).now w1 h1 (.dat (.int _))⟩
    | _ => exact h1.elim
theorem dneg {X : Cx} {W : WX} {e : Expr} {t : DE} {pos : Pos} (h : PEd X W e t) : PEd X W (.UnaryOp .USub e pos) (dNeg t) := PE.imp (pe_un un_neg h) low_neg
end DD
namespace DD
open PySem PySem.Spec PyProof.Rows L2
/-- what a comprehension over data has made: f tells each item's result, or none -/
structure LcJ {α : Type} (as : List α) (f : α → Option Dt) (st : Store) (i : Nat) (acc : List Sv) (st' : Store) : Prop where
  st : st' = st
  acc : acc = ((as.take i).filterMap f).map Sv.dat
theorem lcj_len {α : Type} {as : List α} {f : α → Option Dt} {st st' : Store} {i : Nat} {acc : List Sv} (h : LcJ as f st i acc st') (hi : i ≤ as.length) : acc.length ≤ i := by
  rw [h.acc, List.length_map]
  exact Nat.le_trans (List.length_filterMap_le _ _) (by rw [List.length_take]; omega)
theorem lc_yes {α : Type} {as : List α} {f : α → Option Dt} {st : Store} {i : Nat} {acc : List Sv} {D : Addr} {a : α} {r : Dt} (hl : as.length ≤ sizeLine) (ha : as[i]? = some a) (J : LcJ as f st i acc st) (hf : f a = some r) :
    ∃ acc' st5, ((D, Ob.lst acc) :: st) = (D, .lst acc') :: st5 ∧ acc'.length < sizeLine ∧ LcJ as f st (i + 1) (acc' ++ [.dat r]) st5 := by
  have hi := (List.getElem?_eq_some_iff.mp ha).1
  refine ⟨acc, st, rfl, Nat.lt_of_le_of_lt (lcj_len J (by omega)) (by omega), rfl, ?_⟩
  rw [J.acc, List.take_succ, ha, List.filterMap_append, List.map_append]
  simp [hf]
theorem lc_no {α : Type} {as : List α} {f : α → Option Dt} {st : Store} {i : Nat} {acc : List Sv} {D : Addr} {a : α} (ha : as[i]? = some a) (J : LcJ as f st i acc st) (hf : f a = none) :
    ∃ acc' st5, ((D, Ob.lst acc) :: st) = (D, .lst acc') :: st5 ∧ LcJ as f st (i + 1) acc' st5 := by
  refine ⟨acc, st, rfl, rfl, ?_⟩
  rw [J.acc, List.take_succ, ha, List.filterMap_append, List.map_append]
  simp [hf]
theorem lc_pure {α : Type} {g : DG} {tt : DT} {te : DE} {vs : List Nat} {xs : List Sv} {Δ : List Sv} {st : Store} {ok : OK} (as : List α) (e : α → Dt) (f : α → Option Dt) (hx : xs = as.map fun a => .dat (e a))
    (hb : ∀ i a D acc, as[i]? = some a → D ∉ keys st → LcJ as f st i acc st → g (.dat (e a)) (wipeD Δ vs) ((D, .lst acc) :: st) fun Δ2 st2 => tt Δ2 st2 (fun b st3 =>
      (b = true → te Δ2 st3 (fun y st4 => ∃ acc' st5, st4 = (D, .lst acc') :: st5 ∧ acc'.length < sizeLine ∧ LcJ as f st (i + 1) (acc' ++ [y]) st5) fun _ _ => False) ∧ (b = false → ∃ acc' st5, st3 = (D, .lst acc') :: st5 ∧ LcJ as f st (i + 1) acc' st5)) fun _ _ => False)
    (hk : ok (.dat (.lst (as.filterMap f))) st) : lcD g tt te vs xs Δ st ok := by
  subst hx
  rw [lcD_eq]
  intro D hD
  refine ⟨LcJ as f st, ⟨rfl, by simp⟩, ?_, ?_⟩
  · rintro i d acc st' hd J hD'
    obtain rfl := J.st
    rw [List.getElem?_map] at hd
    cases ea : as[i]? with
    | none => rw [ea] at hd; cases hd
    | some a =>
      rw [ea] at hd
      cases hd
      exact hb i a D acc ea hD' J
  · rintro acc st' J
    obtain rfl := J.st
    have e := J.acc
    rw [List.length_map, List.take_length] at e
    subst e
    exact ⟨_, .map _, hk⟩
/-- a loop that carries a state -/
theorem loop_fold {α σ : Type} {xs : List Sv} {g : DG} {body : DS} {Δ : List Sv} {st : Store} {N : DN} (as : List α) (e : α → Dt) (F : σ → α → σ) (s0 : σ) (R : σ → List Sv → Store → Prop) (hx : xs = as.map fun a => .dat (e a))
    (h0 : R s0 Δ st) (ht : ∀ (pre : List α) a post s Δ' st', as = pre ++ a :: post → s = pre.foldl F s0 → R s Δ' st' → g (.dat (e a)) Δ' st' fun Δ2 st2 => body Δ2 st2 { N with nx := R (F s a), ct := R (F s a), bk := N.nx })
    (he : ∀ Δ' st', R (as.foldl F s0) Δ' st' → N.nx Δ' st') : loopD xs g body Δ st N := by
  subst hx
  rw [loopD_eq]
  refine ⟨fun i => R ((as.take i).foldl F s0), h0, fun i d Δ' st' hd h => ?_, fun Δ' st' h => he _ _ (by rw [List.length_map, List.take_length] at h; exact h)⟩
  rw [List.getElem?_map] at hd
  cases ea : as[i]? with
  | none => rw [ea] at hd; cases hd
  | some a =>
    rw [ea] at hd
    cases hd
    have e2 : (as.take (i + 1)).foldl F s0 = F ((as.take i).foldl F s0) a := by rw [List.take_succ, ea, List.foldl_append]; rfl
    have e3 : as = as.take i ++ a :: as.drop (i + 1) := by
      obtain ⟨hl, e⟩ := List.getElem?_eq_some_iff.mp ea
      rw [← e, List.getElem_cons_drop, List.take_append_drop]
    dsimp only
    rw [e2]
    exact ht (as.take i) a _ _ Δ' st' e3 rfl h
/-- a loop that looks for the first item with p -/
structure FJ {α : Type} (as : List α) (p : α → Bool) (R : List Sv → Store → Prop) (i : Nat) (Δ : List Sv) (st : Store) : Prop where
  r : R Δ st
  n : (as.take i).find? p = none
theorem fj_no {α : Type} {as : List α} {p : α → Bool} {R : List Sv → Store → Prop} {i : Nat} {Δ Δ' : List Sv} {st st' : Store} {a : α} (ha : as[i]? = some a) (J : FJ as p R i Δ st) (hp : p a = false) (r : R Δ' st') : FJ as p R (i + 1) Δ' st' := by
  refine ⟨r, ?_⟩
  rw [List.take_succ, ha, List.find?_append, J.n]
  simp [hp]
theorem fj_yes {α : Type} {as : List α} {p : α → Bool} {R : List Sv → Store → Prop} {i : Nat} {Δ : List Sv} {st : Store} {a : α} (ha : as[i]? = some a) (J : FJ as p R i Δ st) (hp : p a = true) : as.find? p = some a := by
  have e3 : as = as.take i ++ a :: as.drop (i + 1) := by
    obtain ⟨hl, e⟩ := List.getElem?_eq_some_iff.mp ha
    rw [← e, List.getElem_cons_drop, List.take_append_drop]
  rw [e3, List.find?_append, J.n, List.find?_cons, hp]
  rfl
theorem loop_find {α : Type} {xs : List Sv} {g : DG} {body : DS} {Δ : List Sv} {st : Store} {N : DN} (as : List α) (e : α → Dt) (p : α → Bool) (R : List Sv → Store → Prop) (hx : xs = as.map fun a => .dat (e a))
    (h0 : R Δ st) (ht : ∀ i a Δ' st', as[i]? = some a → FJ as p R i Δ' st' → g (.dat (e a)) Δ' st' fun Δ2 st2 => body Δ2 st2 { N with nx := FJ as p R (i + 1), ct := FJ as p R (i + 1), bk := N.nx })
    (he : ∀ Δ' st', R Δ' st' → as.find? p = none → N.nx Δ' st') : loopD xs g body Δ st N := by
  subst hx
  rw [loopD_eq]
  refine ⟨FJ as p R, ⟨h0, rfl⟩, fun i d Δ' st' hd h => ?_, fun Δ' st' h => he _ _ h.r (by have := h.n; rw [List.length_map, List.take_length] at this; exact this)⟩
  rw [List.getElem?_map] at hd
  cases ea : as[i]? with
  | none => rw [ea] at hd; cases hd
  | some a =>
    rw [ea] at hd
    cases hd
    exact ht i a Δ' st' ea h
/-- list length -/
abbrev dI (i : Int) : Sv := .dat (.int i)
theorem atI_of {α : Type} {xs : List α} {i : Int} (h0 : 0 ≤ i) (h1 : i < xs.length) : ∃ x, xs[i.toNat]? = some x ∧ atI xs i = some x := by
  have hl : i.toNat < xs.length := by omega
  refine ⟨xs[i.toNat], List.getElem?_eq_getElem hl, ?_⟩
  unfold atI ixN
  rw [if_pos h0, if_pos h1]
  exact List.getElem?_eq_getElem hl
theorem atI_get {α : Type} {xs : List α} {i : Int} {x : α} (h0 : 0 ≤ i) (h1 : xs[i.toNat]? = some x) : atI xs i = some x := by
  have hl := (List.getElem?_eq_some_iff.mp h1).1
  unfold atI ixN
  rw [if_pos h0, if_pos (by omega)]
  exact h1
theorem set_self {α : Type} {st : List α} {j : Nat} {x : α} (h : st[j]? = some x) : st.set j x = st := by
  obtain ⟨hl, e⟩ := List.getElem?_eq_some_iff.mp h
  rw [← e, List.set_getElem_self]
theorem set_at {α : Type} {st : List α} {j : Nat} {x y : α} (h : st[j]? = some x) : (st.set j y)[j]? = some y := List.getElem?_set_self (List.getElem?_eq_some_iff.mp h).1
end DD
namespace SP
open PySem PySem.Spec PyProof.Rows L2 DD
/-- one to eight letters a to z -/
def isWord (z : Str) : Bool := (decide (1 ≤ (z.length : Int)) && decide ((z.length : Int) ≤ 8)) && z.cps.toList.all fun c => decide (97 ≤ c) && decide (c ≤ 122)
def wordD : Dt → Bool
  | .str z => isWord z
  | _ => false
def isNum (x : Dt) (a b : Int) : Bool := match x with
  | .int i => decide (a ≤ i) && decide (i ≤ b)
  | _ => false
/-- plain: a scalar, a short text -/
def Pln : Dt → Prop
  | .non => True
  | .bl _ => True
  | .int _ => True
  | .str z => z.length ≤ sizeLine
  | _ => False
def ctWord : Ct := fun ss st ok _ => ∃ x, ss = [.dat x] ∧ Pln x ∧ ok (.dat (.bl (wordD x))) st
def ctNum : Ct := fun ss st ok _ => ∃ (x : Dt) (a b : Int), ss = [.dat x, .dat (.int a), .dat (.int b)] ∧ Pln x ∧ ok (.dat (.bl (isNum x a b))) st
theorem le_a (c : Nat) : (!decide ((⟨#[c]⟩ : Str).cps.toList < (Str.ofString "a").cps.toList)) = decide (97 ≤ c) := by
  have e : (Str.ofString "a").cps.toList = [97] := by decide +kernel
  rw [e]
  have e2 : ([c] < [97]) ↔ c < 97 := by rw [List.cons_lt_cons_iff]; simp
  by_cases h : 97 ≤ c
  · rw [decide_eq_true h, decide_eq_false (fun z => absurd (e2.mp z) (by omega))]
    rfl
  · rw [decide_eq_false h, decide_eq_true (e2.mpr (by omega))]
    rfl
theorem le_z (c : Nat) : (!decide ((Str.ofString "z").cps.toList < (⟨#[c]⟩ : Str).cps.toList)) = decide (c ≤ 122) := by
  have e : (Str.ofString "z").cps.toList = [122] := by decide +kernel
  rw [e]
  have e2 : ([122] < [c]) ↔ 122 < c := by rw [List.cons_lt_cons_iff]; simp
  by_cases h : c ≤ 122
  · rw [decide_eq_true h, decide_eq_false (fun z => absurd (e2.mp z) (by omega))]
    rfl
  · rw [decide_eq_false h, decide_eq_true (e2.mpr (by omega))]
    rfl
def inI : Dt → Int
  | .int i => i
  | _ => 0
/-- the first wrong part of a sending -/
def wrongS (c s e b n l : Dt) : Option Str :=
  bif wordD c then bif wordD s then bif isNum e 1 999 then bif isNum b 0 1000000 then bif isNum n (inI b + 1) 1000600 then bif isNum l 0 60 then none
  else some "late" else some "end" else some "begin" else some "episode" else some "show" else some "channel"
/-- the first wrong part of a rule -/
def wrongR (s f l p b a : Dt) : Option Str :=
  bif wordD s then bif isNum f 1 999 then bif isNum l (inI f) 999 then bif isNum p 1 9 then bif isNum b 0 60 then bif isNum a 0 60 then none
  else some "after" else some "before" else some "priority" else some "last" else some "first" else some "show"
def optD : Option Str → Dt
  | some z => .str z
  | none => .non
abbrev six (f : Dt → Dt → Dt → Dt → Dt → Dt → Option Str) : Ct := fun ss st ok _ => ∃ a b c d e g, ss = [.dat a, .dat b, .dat c, .dat d, .dat e, .dat g] ∧ Pln a ∧ Pln b ∧ Pln c ∧ Pln d ∧ Pln e ∧ Pln g ∧ ok (.dat (optD (f a b c d e g))) st
def ctWrongS : Ct := six wrongS
def ctWrongR : Ct := six wrongR
theorem isNum_int {x : Dt} {a b : Int} (h : isNum x a b = true) : ∃ i, x = .int i ∧ a ≤ i ∧ i ≤ b := by
  cases x with
  | int i => simp [isNum] at h; exact ⟨i, rfl, h.1, h.2⟩
  | _ => cases h
def fldS (a b c d e g : Dt) : List (Str × Dt) := [("_channel", a), ("_show", b), ("_episode", c), ("_begin", d), ("_end", e), ("_late", g)]
def fldR (a b c d e g : Dt) : List (Str × Dt) := [("_show", a), ("_first", b), ("_last", c), ("_priority", d), ("_before", e), ("_after", g)]
/-- __init__ of a sending | rule -/
abbrev initC (C X : Addr) (f : Dt → Dt → Dt → Dt → Dt → Dt → Option Str) (fl : Dt → Dt → Dt → Dt → Dt → Dt → List (Str × Dt)) : Ct := fun ss st ok ex => ∃ p st0 a b c d e g, ss = [.own p, .dat a, .dat b, .dat c, .dat d, .dat e, .dat g] ∧ st = (p, .ins C []) :: st0 ∧
  Pln a ∧ Pln b ∧ Pln c ∧ Pln d ∧ Pln e ∧ Pln g ∧ (∀ z, f a b c d e g = some z → ex ⟨X, [("part", .str z)]⟩ st0) ∧ (f a b c d e g = none → ok (.dat .non) ((p, .ins C ((fl a b c d e g).map fun x => (x.1, .dat x.2))) :: st0))
def ctInitS (C X : Addr) : Ct := initC C X wrongS fldS
def ctInitR (C X : Addr) : Ct := initC C X wrongR fldR
/-- a property -/
def ctGet (C : Addr) (f : Str) : Ct := fun ss st ok _ => ∃ fs d, ss = [.dat (.ins C fs)] ∧ fs.lookup f = some d ∧ ok (.dat d) st
/-- two sendings, two rules: a word, .. -/
structure Snd where
  channel : Str
  show_ : Str
  episode : Int
  begin_ : Int
  end_ : Int
  late : Int
deriving DecidableEq
structure Rul where
  show_ : Str
  first : Int
  last : Int
  priority : Int
  before : Int
  after : Int
deriving DecidableEq
def Snd.d (C : Addr) (x : Snd) : Dt := .ins C (fldS (.str x.channel) (.str x.show_) (.int x.episode) (.int x.begin_) (.int x.end_) (.int x.late))
def Rul.d (C : Addr) (x : Rul) : Dt := .ins C (fldR (.str x.show_) (.int x.first) (.int x.last) (.int x.priority) (.int x.before) (.int x.after))
abbrev obX (xs : List Int) : Ob := .lst (xs.map dI)
/-- plain data, n deep -/
inductive Pl : Nat → Dt → Prop
  | non (n : Nat) : Pl (n + 1) .non
  | bl (n : Nat) (b : Bool) : Pl (n + 1) (.bl b)
  | int (n : Nat) (i : Int) : Pl (n + 1) (.int i)
  | str (n : Nat) (z : Str) : Pl (n + 1) (.str z)
  | lst {n : Nat} {ds : List Dt} (h : ∀ d ∈ ds, Pl n d) (l : ds.length ≤ sizeLine) : Pl (n + 1) (.lst ds)
  | tup {n : Nat} {ds : List Dt} (h : ∀ d ∈ ds, Pl n d) (l : ds.length ≤ sizeLine) : Pl (n + 1) (.tup ds)
def ctAlike (n : Nat) : Ct := fun ss st ok _ => ∃ d, ss = [.dat d, .dat d] ∧ Pl n d ∧ ok (.dat (.bl true)) st
end SP
namespace DD
open PySem PySem.Spec PyProof.Rows L2
def rSortP (K : PySem.W.Frag) : List V → Hp → VK → Prop := fun vs H Q => ∃ (a : Addr) (xs : List V) (β : Type) (bs : List β) (enc : β → PyData) (R : V → β → Prop), vs = [.ref a] ∧ SqL K H a xs ∧ Paired R xs bs ∧ DpAll K H xs (bs.map enc) ∧
  PySem.W.AllAlike (bs.map enc) ∧ PySem.W.Sortable (bs.map enc) ∧ (∀ b ∈ bs, (enc b).depth ≤ 30) ∧ ∀ ys p, Paired R ys (bs.mergeSort (PySem.W.dataLe false enc)) → H p = none → Q (.ref p) (upd H p (.lst ys))
theorem each_of {β : Type} {R : V → β → Prop} : ∀ {xs : List V} {bs : List β} {its : List Value}, Paired R xs bs → Vals xs its → PySem.W.EachIs (fun v b => ∃ x, RelV x v ∧ R x b) its bs
  | _, _, _, .nil, .nil => .nil
  | _, _, _, .cons h t, .cons r rs => .cons ⟨_, r, h⟩ (each_of t rs)
theorem each_to {β : Type} {R : V → β → Prop} : ∀ {bs : List β} {its : List Value}, PySem.W.EachIs (fun v b => ∃ x, RelV x v ∧ R x b) its bs → ∃ xs, Paired R xs bs ∧ Vals xs its
  | _, _, .nil => ⟨[], .nil, .nil⟩
  | _, _, .cons ⟨x, r, h⟩ t => by
    obtain ⟨xs, a, b⟩ := each_to t
    exact ⟨x :: xs, .cons h a, .cons r b⟩
theorem cr_sortP {X : Cx} (hu : X.A.units + 65 < cLine) : CallR X (.builtin "sorted") (rSortP X.K) := by
  intro pins s σ H vs us Q I r h
  obtain ⟨a, xs, β, bs, enc, R, rfl, hs, hp, hd, hal, hk, hdep, q⟩ := h
  obtain ⟨its, rv, hl, hz⟩ := I.list hs
  rw [Vals.ref1 r]
  obtain ⟨as, hr⟩ := Dp.readsAll I _ _ _ hd rv
  have hlen : xs.length = bs.length := paired_len hp
  refine PySem.W.sorted_data (R := fun v b => ∃ x, RelV x v ∧ R x b) hl.isList (each_of hp rv) (PySem.W.readsAll_each enc hr) hal hk (by rw [← hlen]; exact hz) (fun b hb => by have := hdep b hb; omega) fun out ho eo => ?_
  obtain ⟨ys, py, vy⟩ := each_to eo
  obtain ⟨ep, he'⟩ := PyProof.Rows.sortedAll_at s.heap its (List.toArray out)
  have hly : ys.length ≤ sizeLine := by rw [vy.length, ho, ← hlen]; exact hz
  exact ⟨.ref _, upd H (s.heap.objs.size + 1) (.lst ys), I.laid (t' := s.toks) (fun _ _ => PyProof.Rows.sortedAll_old) (Nat.le_succ _) ⟨hly, out, ep, vy, he'⟩, rfl, q ys _ py (I.hok.fresh (Nat.le_succ _))⟩
def gSortP : GC := fun xs st ok => match xs with
  | [x] => withL x st fun ys => ∃ (β : Type) (bs : List β) (e : β → Dt) (enc : β → PyData), ys = bs.map (fun b => Sv.dat (e b)) ∧ (∀ b, PyOf (e b) (enc b)) ∧ PySem.W.AllAlike (bs.map enc) ∧ PySem.W.Sortable (bs.map enc) ∧ (∀ b ∈ bs, (enc b).depth ≤ 30) ∧
    ok (.dat (.lst ((bs.mergeSort (PySem.W.dataLe false enc)).map e))) st
  | _ => False
theorem one_arg {K : PySem.W.Frag} {I : Hp} {x : Sv} {vs : List V} (h : IsSs K I [x] vs) : ∃ v, vs = [v] ∧ IsS K I x v := by
  cases h with
  | cons a r => cases r; exact ⟨_, rfl, a⟩
theorem paired_map_l {K : PySem.W.Frag} {I : Hp} {β : Type} {e : β → Dt} : ∀ {bs : List β} {vs : List V}, IsSs K I (bs.map fun b => Sv.dat (e b)) vs → Paired (fun v b => IsD K I (e b) v) vs bs
  | [], _, .nil => .nil
  | b :: bs, _, .cons (.dat h) t => .cons h (paired_map_l t)
theorem paired_back_l {K : PySem.W.Frag} {I : Hp} {β : Type} {e : β → Dt} : ∀ {bs : List β} {vs : List V}, Paired (fun v b => IsD K I (e b) v) vs bs → IsDs K I (bs.map e) vs
  | [], _, .nil => .nil
  | b :: bs, _, .cons h t => .cons h (paired_back_l t)
theorem dps_of {K : PySem.W.Frag} {st : Store} {I H : Hp} (w : Wd K st I H) {β : Type} {e : β → Dt} {enc : β → PyData} (h : ∀ b, PyOf (e b) (enc b)) : ∀ {bs : List β} {vs : List V}, Paired (fun v b => IsD K I (e b) v) vs bs → DpAll K H vs (bs.map enc)
  | [], _, .nil => .nil
  | b :: bs, _, .cons a t => .cons ((h b).dp w a) (dps_of w h t)
theorem lc_sortP {K : PySem.W.Frag} : LRC (K := K) (rSortP K) gSortP := by
  intro xs st I H ok Q vs wd ix h c
  unfold gSortP at h
  split at h
  · obtain ⟨v, rfl, i⟩ := one_arg ix
    obtain ⟨a, us, ys, rfl, hs, hp, β, bs, e, enc, rfl, he, h1, h2, h3, h⟩ := withL_rd wd i h
    have hpp := paired_map_l hp
    refine ⟨a, us, β, bs, enc, _, rfl, hs, hpp, dps_of wd he hpp, h1, h2, h3, fun ys p hy hn => ?_⟩
    obtain ⟨w2, s2⟩ := new_known (o := .lst ys) wd hn
    exact c _ _ _ _ _ h w2 s2 (.dat (.lst upd_same ((paired_back_l hy).mono (Ex.new (wd.sub.none hn)))))
  · exact h.elim
theorem minD_mem (x : PyData) : ∀ xs, PySem.W.minD x xs ∈ x :: xs := by
  intro xs
  unfold PySem.W.minD
  induction xs generalizing x with
  | nil => exact List.mem_cons_self
  | cons y ys ih =>
    rw [List.foldl_cons]
    by_cases h : PySem.W.dataLt y x = true
    · rw [if_pos h]
      have := ih y
      exact List.mem_cons_of_mem _ this
    · rw [if_neg h]
      have := ih x
      rcases List.mem_cons.mp this with e | e
      · rw [e]; exact List.mem_cons_self
      · exact List.mem_cons_of_mem _ (List.mem_cons_of_mem _ e)
theorem maxD_mem (x : PyData) : ∀ xs, PySem.W.maxD x xs ∈ x :: xs := by
  intro xs
  unfold PySem.W.maxD
  induction xs generalizing x with
  | nil => exact List.mem_cons_self
  | cons y ys ih =>
    rw [List.foldl_cons]
    by_cases h : PySem.W.dataLt x y = true
    · rw [if_pos h]
      have := ih y
      exact List.mem_cons_of_mem _ this
    · rw [if_neg h]
      have := ih x
      rcases List.mem_cons.mp this with e | e
      · rw [e]; exact List.mem_cons_self
      · exact List.mem_cons_of_mem _ (List.mem_cons_of_mem _ e)
def rBestP (K : PySem.W.Frag) (best : PyData → List PyData → PyData) : List V → Hp → VK → Prop := fun vs H Q => ∃ (a : Addr) (xs : List V) (β : Type) (b0 : β) (bs : List β) (enc : β → PyData) (R : V → β → Prop), vs = [.ref a] ∧ SqL K H a xs ∧ Paired R xs (b0 :: bs) ∧ DpAll K H xs ((b0 :: bs).map enc) ∧
  PySem.W.AlikeAll ((b0 :: bs).map enc) ∧ PyData.depthAll ((b0 :: bs).map enc) ≤ 30 ∧ ∀ x b, b ∈ b0 :: bs → R x b → enc b = best (enc b0) (bs.map enc) → Q x H
theorem best_at {X : Cx} {pins : List (Addr × Obj)} {σ : L2.St} {H : Hp} {s : Shared} {β : Type} {R : V → β → Prop} {enc : β → PyData} {xs : List V} {bs : List β} {its : List Value} {as : List Addr} {d : PyData} (hp : Paired R xs bs) (rv : Vals xs its) (hr : ReadsAll s.heap its (bs.map enc) as)
    (ha : PySem.W.AlikeAll (bs.map enc)) (hd : d ∈ bs.map enc) {i : Nat} {v : Value} {h' : Heap} {as' : List Addr} (hv : its[i]? = some v) (r : Reads h' v d as') (k : ∀ b o, s.heap.get? b = some o → h'.get? b = some o) : ∃ x b, b ∈ bs ∧ R x b ∧ RelV x v ∧ enc b = d := by
  have key : ∀ {xs : List V} {bs : List β} {its : List Value} {as : List Addr}, Paired R xs bs → Vals xs its → ReadsAll s.heap its (bs.map enc) as → ∀ {i : Nat}, its[i]? = some v → ∃ x b as'', b ∈ bs ∧ R x b ∧ RelV x v ∧ Reads s.heap v (enc b) as'' := by
    intro xs bs its as hp
    induction hp generalizing its as with
    | nil => intro rv hr i hv; cases rv; simp at hv
    | cons h t ih =>
      intro rv hr i hv
      cases rv with
      | cons r0 rs =>
        cases hr with
        | cons q0 qs =>
          cases i with
          | zero =>
            simp at hv
            subst hv
            exact ⟨_, _, _, List.mem_cons_self, h, r0, q0⟩
          | succ i =>
            obtain ⟨x, b, as'', h1, h2, h3, h4⟩ := ih rs qs (i := i) (by simpa using hv)
            exact ⟨x, b, as'', List.mem_cons_of_mem _ h1, h2, h3, h4⟩
  obtain ⟨x, b, as'', h1, h2, h3, h4⟩ := key hp rv hr hv
  exact ⟨x, b, h1, h2, h3, PySem.W.alike_unique (h := h') _ _ v _ _ (ha.1 _ (List.mem_map.mpr ⟨b, h1, rfl⟩) _ hd) (PySem.W.reads_keeps k h4) r⟩
theorem cr_minP {X : Cx} (hc : X.calm = true) (hu : X.A.units + 65 < cLine) : CallR X (.builtin "min") (rBestP X.K PySem.W.minD) := by
  intro pins s σ H vs us Q I r h
  obtain ⟨a, xs, β, b0, bs, enc, R, rfl, hs, hp, hd, hal, hdep, q⟩ := h
  obtain ⟨its, rv, hl, hz⟩ := I.list hs
  rw [Vals.ref1 r]
  obtain ⟨as, hr⟩ := Dp.readsAll I _ _ _ hd rv
  refine PySem.W.min_list_data (x := enc b0) (xs := bs.map enc) (I.ok.hd hc) hl.isList hr hal (by rw [List.map_cons] at hdep; omega) fun i v h' tk as' hv hrd hk => ?_
  obtain ⟨x, b, h1, h2, h3, h4⟩ := best_at (X := X) (pins := pins) (σ := σ) (H := H) hp rv hr hal (minD_mem _ _) (by simpa using hv) hrd hk
  exact ⟨x, H, I.kept hk, h3, q x b h1 h2 h4⟩
theorem cr_maxP {X : Cx} (hc : X.calm = true) (hu : X.A.units + 65 < cLine) : CallR X (.builtin "max") (rBestP X.K PySem.W.maxD) := by
  intro pins s σ H vs us Q I r h
  obtain ⟨a, xs, β, b0, bs, enc, R, rfl, hs, hp, hd, hal, hdep, q⟩ := h
  obtain ⟨its, rv, hl, hz⟩ := I.list hs
  rw [Vals.ref1 r]
  obtain ⟨as, hr⟩ := Dp.readsAll I _ _ _ hd rv
  refine PySem.W.max_list_data (x := enc b0) (xs := bs.map enc) (I.ok.hd hc) hl.isList hr hal (by rw [List.map_cons] at hdep; omega) fun i v h' tk as' hv hrd hk => ?_
  obtain ⟨x, b, h1, h2, h3, h4⟩ := best_at (X := X) (pins := pins) (σ := σ) (H := H) hp rv hr hal (maxD_mem _ _) (by simpa using hv) hrd hk
  exact ⟨x, H, I.kept hk, h3, q x b h1 h2 h4⟩
def gBestP (best : PyData → List PyData → PyData) : GC := fun xs st ok => match xs with
  | [x] => withL x st fun ys => ∃ (β : Type) (b0 : β) (bs : List β) (e : β → Dt) (enc : β → PyData), ys = (b0 :: bs).map (fun b => Sv.dat (e b)) ∧ (∀ b, PyOf (e b) (enc b)) ∧ PySem.W.AlikeAll ((b0 :: bs).map enc) ∧ PyData.depthAll ((b0 :: bs).map enc) ≤ 30 ∧
    ∀ b, b ∈ b0 :: bs → enc b = best (enc b0) (bs.map enc) → ok (.dat (e b)) st
  | _ => False
theorem lc_bestP {K : PySem.W.Frag} {best : PyData → List PyData → PyData} : LRC (K := K) (rBestP K best) (gBestP best) := by
  intro xs st I H ok Q vs wd ix h c
  unfold gBestP at h
  split at h
  · obtain ⟨v, rfl, i⟩ := one_arg ix
    obtain ⟨a, us, ys, rfl, hs, hp, β, b0, bs, e, enc, rfl, he, h1, h2, h⟩ := withL_rd wd i h
    have hpp := paired_map_l hp
    exact ⟨a, us, β, b0, bs, enc, _, rfl, hs, hpp, dps_of wd he hpp, h1, h2, fun x b hb hx hm => c.now wd (h b hb hm) (.dat hx)⟩
  · exact h.elim
end DD
namespace DD
open PySem PySem.Spec PyProof.Rows L2
def keysOf : List Dt → Option (List Key)
  | [] => some []
  | d :: ds => match keyD d, keysOf ds with
    | some k, some ks => some (k :: ks)
    | _, _ => none
def keyT : Dt → Option (List Key)
  | .tup (d :: ds) => keysOf (d :: ds)
  | _ => none
section
variable {K : PySem.W.Frag} {W : WX} {st : Store} {I H : Hp}
theorem keys_are : ∀ {ds : List Dt} {vs : List V} {ks : List Key}, IsDs K I ds vs → keysOf ds = some ks → vs = ks.map kV
  | [], _, _, .nil, e => by cases e; rfl
  | d :: ds, _, _, .cons h t, e => by
    unfold keysOf at e
    cases e1 : keyD d with
    | none => rw [e1] at e; cases e
    | some k =>
      cases e2 : keysOf ds with
      | none => rw [e1, e2] at e; cases e
      | some ks =>
        rw [e1, e2] at e
        cases e
        rw [key_is h e1, keys_are t e2]
        rfl
theorem keyT_ne {ds : List Dt} {k : List Key} (e : keyT (.tup ds) = some k) : k ≠ [] := by
  rintro rfl
  cases ds with
  | nil => cases e
  | cons d ds =>
    have e : keysOf (d :: ds) = some [] := e
    unfold keysOf at e
    cases e1 : keyD d <;> cases e2 : keysOf ds <;> rw [e1, e2] at e <;> simp at e
theorem keyT_ks {ds : List Dt} {k : List Key} (e : keyT (.tup ds) = some k) : keysOf ds = some k := by
  cases ds with
  | nil => cases e
  | cons d ds => exact e
theorem keyT_is {d : Dt} {v : V} {k : List Key} (w : Wd K st I H) (h : IsD K I d v) (e : keyT d = some k) : ∃ b, v = .ref b ∧ I b = some (.tup (k.map kV)) ∧ H b = some (.tup (k.map kV)) := by
  cases h with
  | tup h1 h2 =>
    have hne := keyT_ne e
    have e0 : keysOf _ = some k := keyT_ks e
    have e' := keys_are h2 e0
    subst e'
    rcases h1 with h1 | ⟨z, _⟩
    · exact ⟨_, rfl, h1, w.sub.at h1 (by intro k z; cases z) (by intro k z; cases z)⟩
    · cases k with
      | nil => exact absurd rfl hne
      | cons => cases z
  | _ => cases e
end
end DD
namespace DD
open PySem PySem.Spec PyProof.Rows L2
end DD
namespace DD
open PySem PySem.Spec PyProof.Rows L2
theorem ssetLc {X : Cx} {W : WX} {y : Str} {py : Pos} {elt tg iter : Expr} {ifs : List Expr} {scope : Scope} {pos spos : Pos} {it : DI} {g : DG} {tt : DT} {te : DE} (i : Nat) (own : List (Str × Nat)) (hN : X.N.Nodup) (hi : PId X W tg iter it) (ok : BlkOk X.N X.env.scope scope own)
    (hg : ∀ (s : Shared) (H : Hp) (C : Addr) (cl : List (Str × Addr)) (fp : List Addr), PGw (X.blk s H scope (compEnvC scope cl C X.env) fp) (own.map (·.2)) tg g) (ht : ∀ (s : Shared) (H : Hp) (C : Addr) (cl : List (Str × Addr)) (fp : List Addr), PTsd (X.blk s H scope (compEnvC scope cl C X.env) fp) ifs tt)
    (he : ∀ (s : Shared) (H : Hp) (C : Addr) (cl : List (Str × Addr)) (fp : List Addr), PEd (X.blk s H scope (compEnvC scope cl C X.env) fp) W0 elt te) (hc : X.calm = true := by rfl) (hy : X.N[i]? = some y := by rfl) (hyl : X.env.scope.names.lookup y = some .local := by rfl)
    (hsw : swapsWith (.ListComp elt [⟨tg, iter, ifs, 0⟩] scope pos) (some (.Name y py)) spos.line X.env = pure true := by rfl) (hs : ∀ x, foldedSetIterable iter X.env x = pure x := by intro _; rfl) :
    PSd X W (.Assign [.Name y py] (.ListComp elt [⟨tg, iter, ifs, 0⟩] scope pos) spos) (dAsg i (dLc it g tt te (own.map (·.2)))) :=
  PS.imp (ps_setLc hc hN hy hyl hsw hi ok hg ht he hs) fun D σ H h => low_lc _ _ _ (lowS_asg D σ H h)
end DD
namespace DD
open PySem PySem.Spec PyProof.Rows L2
def dIndex (to te : DE) : DE := fun Δ st ok ex => to Δ st (fun x st1 => match x with
  | .dat (.lst es) => te Δ st1 (fun y st2 => match y with
    | .dat d => ∃ (p : PyData) (qs : List PyData) (j : Nat) (z : PyData), PyOf d p ∧ PyOfs es qs ∧ SeqAt.shaped (.list qs) = true ∧ SeqAt.shaped p = true ∧ qs[j]? = some z ∧ PyData.eqv z p = true ∧ (∀ (m : Nat) (z' : PyData), m < j → qs[m]? = some z' → PyData.eqv z' p = false) ∧ ok (.dat (.int (j : Nat))) st2
    | _ => False) ex
  | _ => False) ex
theorem low_index {K : PySem.W.Frag} {W : WX} {to te : DE} : ∀ σ H Q, low K (dIndex to te) W σ H Q → tBM K "list" (rIndexD K) (low K to W) (tCons (low K te W) tNil) σ H Q := by
  rintro σ H Q ⟨Δ, st, I, ok, ex, wd, sl, h, c, cx⟩
  refine low_go wd sl h (fun x st1 v I1 H1 h1 w1 s1 i1 => ?_) cx
  cases i1 with
  | own p => exact h1.elim
  | dat hd =>
    cases hd with
    | lst a b =>
      refine ⟨.inl ⟨rfl, _, w1.sub.sl (.inl (.inl a))⟩, ?_⟩
      refine low_go w1 (sl.mono s1.ii) h1 (fun y st2 u I2 H2 h2 w2 s2 i2 => ?_) (cx.go s1)
      cases i2 with
      | own p => exact h2.elim
      | dat hy =>
        obtain ⟨p, qs, j, z, g1, g2, g3, g4, g5, g6, g7, h2⟩ := h2
        exact ⟨_, u, p, qs, j, z, rfl, rfl, .lst (w2.sub.sl (.inl (.inl (s2.ii _ _ a)))) (g2.dp w2 (b.mono s2.ii)), g1.dp w2 hy, g3, g4, g5, g6, g7, (c.go (s1.trans s2)).now w2 h2 (.dat (.int _))⟩
    | _ => exact h1.elim
theorem dindex {X : Cx} {W : WX} {o e : Expr} {apos pos : Pos} {to te : DE} (hu : X.A.units + 65 < cLine) (ho : PEd X W o to) (he : PEd X W e te) (hbase : attributeBase o "index" X.env (eval o X.env) = eval o X.env := by rfl)
    (hfew : ((backTo pos (starEach [e] X.env)).all (fun x => !x.1) && (backToKw pos (keywordEach [] X.env)).all (fun x => x.1.isSome) && decide (([e] : List Expr).length + ([] : List Keyword).length + (if ([] : List Keyword).isEmpty then 0 else 1) < 30)) = true := by rfl)
    (hline : (apos.endLine == pos.line) = true := by rfl) (hs : starEach [e] X.env = (false, eval e X.env) :: starEach [] X.env := by rfl) (hplain : (backTo pos (starEach [] X.env)).any (·.1) = false := by rfl) : PEd X W (.Call (.Attribute o "index" apos) [e] [] pos) (dIndex to te) :=
  PE.imp (pe_bm PySem.F.plainAttrs_list PySem.F.slot_list_index PySem.F.type_list_index (mt_indexD hu) ho (pa_cons he pa_nil hs) hbase hfew hline hs hplain) low_index
end DD
namespace SP
open PySem PySem.Spec PyProof.Rows L2 DD
abbrev Ep := Str × Int
def epD (e : Ep) : Dt := .tup [.str e.1, .int e.2]
def epP (e : Ep) : PyData := .tuple [.str e.1, .int e.2]
theorem word_ok {z : Str} (h : isWord z = true) : PyData.strOk z = true := by
  unfold isWord at h
  rw [Bool.and_eq_true] at h
  have h2 := List.all_eq_true.mp h.2
  unfold PyData.strOk
  rw [← Array.all_toList, List.all_eq_true]
  intro c hc
  have := h2 c hc
  rw [Bool.and_eq_true, decide_eq_true_iff, decide_eq_true_iff] at this
  exact decide_eq_true (by omega)
theorem word_len {z : Str} (h : isWord z = true) : z.length ≤ sizeLine := by
  unfold isWord at h
  rw [Bool.and_eq_true, Bool.and_eq_true] at h
  have := of_decide_eq_true h.1.2
  rw [sizeLine_eq]
  omega
theorem ep_of (e : Ep) : PyOf (epD e) (epP e) := .tup (.cons (.str _) (.cons (.int _) .nil))
theorem eps_of : ∀ es : List Ep, PyOfs (es.map epD) (es.map epP)
  | [] => .nil
  | e :: es => .cons (ep_of e) (eps_of es)
theorem ep_shaped (e : Ep) (h : isWord e.1 = true) : SeqAt.shaped (epP e) = true := by
  have hs : PyData.strOk e.1 = true := word_ok h
  have hc : (epP e).canLay0 = true := by simp [epP, PyData.canLay0, PyData.canLayAll0, hs]
  have hd : (epP e).depth ≤ 64 := by simp [epP, PyData.depth, PyData.depthAll]
  unfold SeqAt.shaped
  rw [hc, decide_eq_true hd]
  rfl
theorem eps_lay (es : List Ep) (h : ∀ e ∈ es, isWord e.1 = true) : PyData.canLayAll0 (es.map epP) = true := by
  induction es with
  | nil => rfl
  | cons e es ih =>
    rw [List.map_cons]
    unfold PyData.canLayAll0
    rw [ih fun e h' => h e (List.mem_cons_of_mem _ h')]
    have hs : PyData.strOk e.1 = true := word_ok (h e List.mem_cons_self)
    simp [epP, PyData.canLay0, PyData.canLayAll0, hs]
theorem ep_eqv (a b : Ep) : PyData.eqv (epP a) (epP b) = decide (a = b) := by
  obtain ⟨a1, a2⟩ := a
  obtain ⟨b1, b2⟩ := b
  unfold epP
  simp only [PyData.eqv, PyData.eqvAll, Bool.and_true]
  by_cases h1 : a1 = b1 <;> by_cases h2 : a2 = b2 <;> simp [h1, h2]
theorem ep_any (es : List Ep) (e : Ep) : ((es.map epP).any fun z => PyData.eqv z (epP e)) = decide (e ∈ es) := by
  induction es with
  | nil => rfl
  | cons a es ih =>
    rw [List.map_cons, List.any_cons, ih, ep_eqv]
    by_cases h : a = e
    · subst h; simp
    · have h' : ¬ e = a := fun z => h z.symm
      simp [h, h']
structure Bk where
  rules : List Rul
  seen : List Ep
abbrev Lst := List (Str × Snd)
structure Cl where
  B : Addr
  R : Addr
  L : Addr
  D : Addr
def dicD {α : Type} (f : α → Dt) (l : List (Str × α)) : Dt := .dic (l.map fun x => (.inr x.1, f x.2))
def Bk.d (c : Cl) (b : Bk) : Dt := .ins c.B [("_rules", .tup (b.rules.map (Rul.d c.R))), ("_seen", .tup (b.seen.map epD))]
def lstD (c : Cl) (l : Lst) : Dt := .ins c.L [("_sendings", dicD (Snd.d c.D) l)]
def look {α : Type} (l : List (Str × α)) (n : Str) : Option α := (l.find? fun x => decide (x.1 = n)).map (·.2)
theorem getD_dic {α : Type} (f : α → Dt) (l : List (Str × α)) (n : Str) : getD ((l.map fun x => ((Sum.inr x.1 : Key), f x.2)).map fun kv => (kv.1, Sv.dat kv.2)) (.inr n) = (look l n).map fun x => Sv.dat (f x) := by
  unfold getD look
  induction l with
  | nil => rfl
  | cons a l ih =>
    rw [List.map_cons, List.map_cons, List.find?_cons, List.find?_cons]
    have e : decide ((Sum.inr a.1 : Key) = Sum.inr n) = decide (a.1 = n) := by simp
    dsimp only
    rw [e]
    cases decide (a.1 = n) with
    | true => rfl
    | false => exact ih
/-- the rule that wishes for an episode -/
def ruleOf (b : Bk) (s : Str) (e : Int) : Option Rul := if (s, e) ∈ b.seen then none else b.rules.find? fun r => decide (r.show_ = s) && (decide (r.first ≤ e) && decide (e ≤ r.last))
def ruleFor (b : Bk) (x : Snd) : Option Rul := ruleOf b x.show_ x.episode
def Snd.ep (x : Snd) : Ep := (x.show_, x.episode)
/-- a sending that is wished, its rule -/
structure Wi where
  n : Str
  s : Snd
  r : Rul
def wished (b : Bk) (l : Lst) : List Wi := l.filterMap fun x => (ruleFor b x.2).map fun r => ⟨x.1, x.2, r⟩
def optR (C : Addr) : Option Rul → Dt
  | some r => r.d C
  | none => .non
structure SOk (x : Snd) : Prop where
  ch : isWord x.channel = true
  sh : isWord x.show_ = true
  e1 : 1 ≤ x.episode
  e2 : x.episode ≤ 999
  b0 : 0 ≤ x.begin_
  b1 : x.begin_ ≤ 1000000
  n0 : x.begin_ < x.end_
  n1 : x.end_ ≤ 1000600
  l0 : 0 ≤ x.late
  l1 : x.late ≤ 60
structure ROk (x : Rul) : Prop where
  sh : isWord x.show_ = true
  f1 : 1 ≤ x.first
  f2 : x.first ≤ x.last
  l2 : x.last ≤ 999
  p1 : 1 ≤ x.priority
  p2 : x.priority ≤ 9
  b0 : 0 ≤ x.before
  b1 : x.before ≤ 60
  a0 : 0 ≤ x.after
  a1 : x.after ≤ 60
structure LOk (l : Lst) : Prop where
  len : l.length ≤ 10
  nd : (l.map (·.1)).Pairwise fun a b => a.cps.toList < b.cps.toList
  ok : ∀ x ∈ l, isWord x.1 = true ∧ SOk x.2
structure BOk (b : Bk) : Prop where
  len : b.rules.length ≤ 6
  ok : ∀ x ∈ b.rules, ROk x
  seen : b.seen.length ≤ 63
  sok : ∀ e ∈ b.seen, isWord e.1 = true
def strLe (a b : Str) : Bool := decide (a.cps.toList ≤ b.cps.toList)
theorem str_ext {x y : Str} (h : x.cps.toList = y.cps.toList) : x = y := PySem.W.str_of_cps h
def sortN (ns : List Str) : List Str := ns.mergeSort strLe
theorem strLe_trans (a b c : Str) (h : strLe a b = true) (k : strLe b c = true) : strLe a c = true := by
  unfold strLe at *
  exact decide_eq_true (List.le_trans (of_decide_eq_true h) (of_decide_eq_true k))
theorem strLe_total (a b : Str) : (strLe a b || strLe b a) = true := by
  unfold strLe
  rw [Bool.or_eq_true, decide_eq_true_iff, decide_eq_true_iff]
  exact List.le_total _ _
theorem sort_unique {α : Type} {le : α → α → Bool} (tr : ∀ a b c, le a b = true → le b c = true → le a c = true) (to : ∀ a b, (le a b || le b a) = true) (an : ∀ a b, le a b = true → le b a = true → a = b) {l l' : List α} (hp : l'.Perm l) (hs : l'.Pairwise fun a b => le a b = true) : l' = l.mergeSort le := by
  have h1 := List.pairwise_mergeSort (le := le) tr to l
  have hp' : l'.Perm (l.mergeSort le) := hp.trans (List.mergeSort_perm l le).symm
  exact List.Perm.eq_of_pairwise (fun a b _ _ => an a b) hs h1 hp'
theorem strLe_anti (a b : Str) (h : strLe a b = true) (k : strLe b a = true) : a = b := by
  unfold strLe at *
  exact str_ext (List.le_antisymm (of_decide_eq_true h) (of_decide_eq_true k))
theorem rising_pw : ∀ (l : List Str) (p : Str), risingS p l = true → (p :: l).Pairwise fun a b => strLe a b = true
  | [], p, _ => by simp
  | x :: l, p, h => by
    unfold risingS at h
    rw [Bool.and_eq_true] at h
    have ih := rising_pw l x h.2
    have hx : strLe p x = true := by
      have h1 : ltCps x.cps.toList p.cps.toList = false := by simpa using h.1
      have e : ltCps x.cps.toList p.cps.toList = decide (x.cps.toList < p.cps.toList) := by first | rfl | exact ltCps_eq _ _
      rw [e] at h1
      unfold strLe
      exact decide_eq_true (List.not_lt.mp (of_decide_eq_false h1))
    refine List.pairwise_cons.mpr ⟨fun y hy => ?_, ih⟩
    rcases List.mem_cons.mp hy with rfl | hy
    · exact hx
    · exact strLe_trans _ _ _ hx ((List.pairwise_cons.mp ih).1 y hy)
theorem sorted_is {ys ks : List Str} (hp : ys.Perm ks) (hs : sortedS ys = true) : ys = sortN ks := by
  refine sort_unique strLe_trans strLe_total strLe_anti hp ?_
  cases ys with
  | nil => simp
  | cons y ys => exact rising_pw ys y hs
theorem data_tot {α : Type} (k : α → PyData) : PySem.W.TotalLe (PySem.W.dataLe false k) := PySem.W.sortLe_total (PyProof.Rows.listOrd PyProof.Rows.itemOrd) false fun b => PySem.W.keyToks (k b)
theorem data_total {α : Type} (k : α → PyData) (a b : α) : (PySem.W.dataLe false k a b || PySem.W.dataLe false k b a) = true := by
  rw [Bool.or_eq_true]
  exact (data_tot k).total a b
theorem data_trans {α : Type} (k : α → PyData) : ∀ a b c, PySem.W.dataLe false k a b = true → PySem.W.dataLe false k b c = true → PySem.W.dataLe false k a c = true := (data_tot k).trans
theorem data_anti {α : Type} (k : α → PyData) (inj : ∀ a b, PySem.W.keyToks (k a) = PySem.W.keyToks (k b) → a = b) (a b : α) (h : PySem.W.dataLe false k a b = true) (h2 : PySem.W.dataLe false k b a = true) : a = b := by
  rw [PySem.W.dataLe_eq] at h h2
  dsimp only [cond] at h h2
  have h1 : PySem.W.dataLt (k b) (k a) = false := by simpa using h
  have h3 : PySem.W.dataLt (k a) (k b) = false := by simpa using h2
  exact inj a b (PyProof.Rows.lex_total (O := PyProof.Rows.itemOrd) _ _ h3 h1)
end SP
namespace SP
open PySem PySem.Spec PyProof.Rows L2 DD
theorem look_mem {α : Type} {l : List (Str × α)} (nd : (l.map (·.1)).Nodup) {x : Str × α} (h : x ∈ l) : look l x.1 = some x.2 := by
  unfold look
  induction l with
  | nil => cases h
  | cons a l ih =>
    rw [List.map_cons, List.nodup_cons] at nd
    rw [List.find?_cons]
    rcases List.mem_cons.mp h with e | h
    · subst e; simp
    · have : a.1 ≠ x.1 := fun e => nd.1 (e ▸ List.mem_map.mpr ⟨x, h, rfl⟩)
      rw [decide_eq_false this]
      exact ih nd.2 h
theorem look_some {α : Type} {l : List (Str × α)} {n : Str} {a : α} (h : look l n = some a) : (n, a) ∈ l := by
  unfold look at h
  cases e : l.find? (fun x => decide (x.1 = n)) with
  | none => rw [e] at h; cases h
  | some x =>
    rw [e] at h
    cases h
    have h1 := List.mem_of_find?_eq_some e
    have h2 := List.find?_some e
    have h3 : x.1 = n := of_decide_eq_true h2
    subst h3
    exact h1
theorem LOk.nodup {l : Lst} (h : LOk l) : (l.map (·.1)).Nodup := h.nd.imp fun {a b} k e => by subst e; exact absurd k (List.lt_irrefl _)
theorem LOk.get {l : Lst} (h : LOk l) {x : Str × Snd} (hx : x ∈ l) : look l x.1 = some x.2 := look_mem h.nodup hx
abbrev bl (c : Cl) (b : Bk) (l : Lst) : List Sv := [.dat (b.d c), .dat (lstD c l)]
def strS (z : Str) : Sv := .dat (.str z)
def namesD (ns : List Str) : Dt := .lst (ns.map .str)
@[irreducible] def ctRuleOf (c : Cl) : Ct := fun ss st ok _ => ∃ b s e, ss = [.dat (b.d c), .dat (.str s), dI e] ∧ BOk b ∧ isWord s = true ∧ ok (.dat (optR c.R (ruleOf b s e))) st
theorem ctRuleOf_eq (c : Cl) {ss : List Sv} {st : Store} {ok : OK} {ex : EK} : ctRuleOf c ss st ok ex = ∃ b s e, ss = [.dat (b.d c), .dat (.str s), dI e] ∧ BOk b ∧ isWord s = true ∧ ok (.dat (optR c.R (ruleOf b s e))) st := by unfold ctRuleOf; rfl
def ctEp (c : Cl) : Ct := fun ss st ok _ => ∃ x : Snd, ss = [.dat (x.d c.D)] ∧ ok (.dat (epD x.ep)) st
@[irreducible] def ctRuleFor (c : Cl) : Ct := fun ss st ok _ => ∃ b x, ss = [.dat (b.d c), .dat (x.d c.D)] ∧ BOk b ∧ SOk x ∧ ok (.dat (optR c.R (ruleFor b x))) st
theorem ctRuleFor_eq (c : Cl) {ss : List Sv} {st : Store} {ok : OK} {ex : EK} : ctRuleFor c ss st ok ex = ∃ b x, ss = [.dat (b.d c), .dat (x.d c.D)] ∧ BOk b ∧ SOk x ∧ ok (.dat (optR c.R (ruleFor b x))) st := by unfold ctRuleFor; rfl
@[irreducible] def ctItem (c : Cl) : Ct := fun ss st ok _ => ∃ l n x, ss = [.dat (lstD c l), .dat (.str n)] ∧ look l n = some x ∧ ok (.dat (x.d c.D)) st
theorem ctItem_eq (c : Cl) {ss : List Sv} {st : Store} {ok : OK} {ex : EK} : ctItem c ss st ok ex = ∃ l n x, ss = [.dat (lstD c l), .dat (.str n)] ∧ look l n = some x ∧ ok (.dat (x.d c.D)) st := by unfold ctItem; rfl
@[irreducible] def ctNames (c : Cl) : Ct := fun ss st ok _ => ∃ l : Lst, ss = [.dat (lstD c l)] ∧ ok (.dat (.tup (l.map fun x => .str x.1))) st
theorem ctNames_eq (c : Cl) {ss : List Sv} {st : Store} {ok : OK} {ex : EK} : ctNames c ss st ok ex = ∃ l : Lst, ss = [.dat (lstD c l)] ∧ ok (.dat (.tup (l.map fun x => .str x.1))) st := by unfold ctNames; rfl
/-- of a book and a listing, and what else -/
@[irreducible] def ctBL (c : Cl) {α : Type} (e : α → List Sv) (pre : Bk → Lst → α → Prop) (res : Bk → Lst → α → Dt) : Ct := fun ss st ok _ => ∃ b l a, ss = .dat (b.d c) :: .dat (lstD c l) :: e a ∧ BOk b ∧ LOk l ∧ pre b l a ∧ ok (.dat (res b l a)) st
theorem ctBL_eq (c : Cl) {α : Type} (e : α → List Sv) (pre : Bk → Lst → α → Prop) (res : Bk → Lst → α → Dt) {ss : List Sv} {st : Store} {ok : OK} {ex : EK} : ctBL c e pre res ss st ok ex = ∃ b l a, ss = .dat (b.d c) :: .dat (lstD c l) :: e a ∧ BOk b ∧ LOk l ∧ pre b l a ∧ ok (.dat (res b l a)) st := by unfold ctBL; rfl
theorem bl_len {c : Cl} {α : Type} {e : α → List Sv} {pre : Bk → Lst → α → Prop} {res : Bk → Lst → α → Dt} {ss : List Sv} {st : Store} {ok : OK} {ex : EK} {m : Nat} (he : ∀ a, (e a).length = m) (h : ctBL c e pre res ss st ok ex) : ss.length = m + 2 := by
  rw [ctBL_eq] at h
  obtain ⟨b, l, a, rfl, _⟩ := h
  show (e a).length + 1 + 1 = _
  rw [he]
theorem bl_at {c : Cl} {α : Type} {e : α → List Sv} {pre : Bk → Lst → α → Prop} {res : Bk → Lst → α → Dt} {st : Store} {ok : OK} {ex : EK} {b : Bk} {l : Lst} (a : α) {xs : List Sv} (hx : xs = e a) (hb : BOk b) (hl : LOk l) (hp : pre b l a) (k : ok (.dat (res b l a)) st) : ctBL c e pre res (.dat (b.d c) :: .dat (lstD c l) :: xs) st ok ex := by
  rw [ctBL_eq]
  subst hx
  exact ⟨b, l, a, rfl, hb, hl, hp, k⟩
def wNames (b : Bk) (l : Lst) : List Str := (wished b l).map (·.n)
def ctWNames (c : Cl) : Ct := ctBL c (fun _ : Unit => []) (fun _ _ _ => True) fun b l _ => namesD (wNames b l)
abbrev Row := Int × Int × Ep
def rowP (r : Row) : PyData := .tuple [.int r.1, .int r.2.1, epP r.2.2]
def Wi.row (x : Wi) : Row := (-x.r.priority, x.s.begin_, x.s.ep)
def dedup (es : List Ep) : List Ep := es.foldl (fun acc e => if e ∈ acc then acc else acc ++ [e]) []
def sortedRows (b : Bk) (l : Lst) : List Row := ((wished b l).map Wi.row).mergeSort (PySem.W.dataLe false rowP)
def wishes (b : Bk) (l : Lst) : List Ep := dedup ((sortedRows b l).map (·.2.2))
abbrev Bn := Int × Str
def bnP (r : Bn) : PyData := .tuple [.int r.1, .str r.2]
def Wi.bn (x : Wi) : Bn := (x.s.begin_, x.n)
def bnOf (b : Bk) (l : Lst) (e : Ep) : List Bn := (((wished b l).filter fun x => decide (x.s.ep = e)).map Wi.bn).mergeSort (PySem.W.dataLe false bnP)
def sendsOf (b : Bk) (l : Lst) (e : Ep) : List Str := (bnOf b l e).map (·.2)
abbrev Win := Int × Int
def winD (w : Win) : Dt := .tup [.int w.1, .int w.2]
def Wi.win (x : Wi) : Win := (if x.s.begin_ - x.r.before > 0 then x.s.begin_ - x.r.before else 0, x.s.end_ + x.r.after)
def ctWindow (c : Cl) : Ct := ctBL c (fun x : Wi => [.dat (.str x.n)]) (fun b l x => x ∈ wished b l) fun _ _ x => winD x.win
def windows (b : Bk) (l : Lst) : List (Str × Win) := (wished b l).map fun x => (x.n, x.win)
def ctWindows (c : Cl) : Ct := ctBL c (fun _ : Unit => []) (fun _ _ _ => True) fun b l _ => dicD winD (windows b l)
def overlap (a b : Win) : Bool := decide (a.1 < b.2) && decide (b.1 < a.2)
abbrev Plan := List (Str × Int)
structure POk (p : Plan) : Prop where
  nd : (p.map (·.1)).Nodup
  len : p.length ≤ 10
def asc (p : Plan) : Plan := (sortN (p.map (·.1))).map fun n => (n, (look p n).getD 0)
def winOf (ws : List (Str × Win)) (n : Str) : Win := (look ws n).getD (0, 0)
def onRecW (ws : List (Str × Win)) (p : Plan) (r : Int) (w : Win) : List Str := ((sortN (p.map (·.1))).filter fun o => decide (look p o = some r)).filter fun o => overlap (winOf ws o) w
abbrev onRec (ws : List (Str × Win)) (p : Plan) (r : Int) (n : Str) : List Str := onRecW ws p r (winOf ws n)
theorem wished_mem {b : Bk} {l : Lst} {x : Wi} : x ∈ wished b l ↔ (x.n, x.s) ∈ l ∧ ruleFor b x.s = some x.r := by
  unfold wished
  rw [List.mem_filterMap]
  constructor
  · rintro ⟨y, hy, h⟩
    cases e : ruleFor b y.2 with
    | none => rw [e] at h; cases h
    | some r => rw [e] at h; cases h; exact ⟨hy, e⟩
  · rintro ⟨h1, h2⟩
    exact ⟨_, h1, by rw [h2]; rfl⟩
end SP
namespace SP
open PySem PySem.Spec PyProof.Rows L2 DD
theorem wnames_is (b : Bk) (l : Lst) : l.filterMap (fun x => (ruleFor b x.2).map fun _ => Dt.str x.1) = (wNames b l).map Dt.str := by
  unfold wNames wished
  rw [List.map_filterMap, List.map_filterMap]
  congr 1
  funext x
  cases ruleFor b x.2 <;> rfl
theorem filterMap_sub {α β γ : Type} (f : α → Option β) (g : β → γ) (h : α → γ) (hf : ∀ a b, f a = some b → g b = h a) : ∀ l : List α, ((l.filterMap f).map g).Sublist (l.map h)
  | [] => .slnil
  | a :: l => by
    rw [List.filterMap_cons, List.map_cons]
    cases e : f a with
    | none => exact (filterMap_sub f g h hf l).cons _
    | some b =>
      dsimp only
      rw [List.map_cons, hf a b e]
      exact (filterMap_sub f g h hf l).cons_cons _
theorem wished_sub (b : Bk) (l : Lst) : ((wished b l).map (·.n)).Sublist (l.map (·.1)) := by
  unfold wished
  refine filterMap_sub _ _ _ (fun x y h => ?_) l
  cases e : ruleFor b x.2 with
  | none => rw [e] at h; cases h
  | some r => rw [e] at h; cases h; rfl
theorem wished_nd {b : Bk} {l : Lst} (h : LOk l) : ((wished b l).map (·.n)).Nodup := h.nodup.sublist (wished_sub b l)
theorem wished_len {b : Bk} {l : Lst} (h : LOk l) : (wished b l).length ≤ 10 := by
  have := (wished_sub b l).length_le
  rw [List.length_map, List.length_map] at this
  exact Nat.le_trans this h.len
/-- a dict comprehension over data, the keys new ones -/
structure DcJ {α : Type} (as : List α) (f : α → Option (Key × Dt)) (st : Store) (i : Nat) (acc : List (Key × Sv)) (st' : Store) : Prop where
  st : st' = st
  acc : acc = ((as.take i).filterMap f).map fun kv => (kv.1, Sv.dat kv.2)
theorem putD_new {κ α : Type} [DecidableEq κ] {kvs : List (κ × α)} {k : κ} {a : α} (h : k ∉ kvs.map (·.1)) : putD kvs k a = kvs ++ [(k, a)] := by
  unfold putD
  rw [if_neg]
  intro z
  obtain ⟨x, hx, e⟩ := List.any_eq_true.mp z
  exact h (List.mem_map.mpr ⟨x, hx, of_decide_eq_true e⟩)
theorem allK_map : ∀ ds : List (Key × Dt), AllK (ds.map fun kv => (kv.1, Sv.dat kv.2)) ds
  | [] => .nil
  | a :: as => .cons (allK_map as)
theorem dc_yes {α : Type} {as : List α} {f : α → Option (Key × Dt)} {st : Store} {i : Nat} {acc : List (Key × Sv)} {D : Addr} {a : α} {d0 v : Dt} {k : Key} (hl : as.length ≤ sizeLine) (hn : ((as.filterMap f).map (·.1)).Nodup) (ha : as[i]? = some a) (J : DcJ as f st i acc st) (hf : f a = some (k, v)) (hk : keyD d0 = some k) :
    ∃ dy k' acc' st6, Sv.dat d0 = .dat dy ∧ keyD dy = some k' ∧ ((D, Ob.dic acc) :: st) = (D, .dic acc') :: st6 ∧ acc'.length < sizeLine ∧ DcJ as f st (i + 1) (putD acc' k' (.dat v)) st6 := by
  have hi := (List.getElem?_eq_some_iff.mp ha).1
  have e3 : as = as.take i ++ a :: as.drop (i + 1) := by
    obtain ⟨hl, e⟩ := List.getElem?_eq_some_iff.mp ha
    rw [← e, List.getElem_cons_drop, List.take_append_drop]
  refine ⟨d0, k, acc, st, rfl, hk, rfl, ?_, rfl, ?_⟩
  · have := List.length_filterMap_le f (as.take i)
    rw [List.length_take] at this
    rw [J.acc, List.length_map]
    omega
  · have hnew : k ∉ acc.map (·.1) := by
      rw [J.acc, List.map_map]
      rw [e3, List.filterMap_append, List.filterMap_cons, hf, List.map_append] at hn
      have := (List.nodup_append.mp hn).2.2
      intro z
      exact this k z k (by simp) rfl
    rw [putD_new hnew, J.acc, List.take_succ, ha, List.filterMap_append, List.map_append]
    simp [hf]
theorem dc_pure {α : Type} {g : DG} {tt : DT} {tk tv : DE} {vs : List Nat} {xs : List Sv} {Δ : List Sv} {st : Store} {ok : OK} (as : List α) (e : α → Dt) (f : α → Option (Key × Dt)) (hx : xs = as.map fun a => .dat (e a))
    (hb : ∀ (i : Nat) (a : α) (D : Addr) acc, as[i]? = some a → D ∉ keys st → DcJ as f st i acc st → g (.dat (e a)) (wipeD Δ vs) ((D, .dic acc) :: st) fun Δ2 st2 => tt Δ2 st2 (fun b st3 =>
      (b = true → tk Δ2 st3 (fun y st4 => tv Δ2 st4 (fun z st5 => ∃ dy k acc' st6, y = .dat dy ∧ keyD dy = some k ∧ st5 = (D, .dic acc') :: st6 ∧ acc'.length < sizeLine ∧ DcJ as f st (i + 1) (putD acc' k z) st6) fun _ _ => False) fun _ _ => False) ∧
      (b = false → ∃ acc' st5, st3 = (D, .dic acc') :: st5 ∧ DcJ as f st (i + 1) acc' st5)) fun _ _ => False)
    (hk : ok (.dat (.dic (as.filterMap f))) st) : dcD g tt tk tv vs xs Δ st ok := by
  subst hx
  rw [dcD_eq]
  intro D hD
  refine ⟨DcJ as f st, ⟨rfl, by simp⟩, ?_, ?_⟩
  · rintro i d acc st' hd J hD'
    obtain rfl := J.st
    rw [List.getElem?_map] at hd
    cases ea : as[i]? with
    | none => rw [ea] at hd; cases hd
    | some a =>
      rw [ea] at hd
      cases hd
      exact hb i a D acc ea hD' J
  · rintro acc st' J
    obtain rfl := J.st
    have e := J.acc
    rw [List.length_map, List.take_length] at e
    subst e
    exact ⟨_, allK_map _, hk⟩
theorem fm_some {α β : Type} (f : α → β) (l : List α) : l.filterMap (fun x => some (f x)) = l.map f := by
  rw [show (fun x => some (f x)) = some ∘ f from rfl, List.filterMap_eq_map]
theorem windows_is (b : Bk) (l : Lst) : Dt.dic ((wished b l).filterMap fun x => some ((Sum.inr x.n : Key), winD x.win)) = dicD winD (windows b l) := by
  unfold dicD windows
  rw [List.map_map]
  congr 1
  exact fm_some _ _
theorem nodup_inr {l : List Str} (h : l.Nodup) : (l.map fun n => (Sum.inr n : Key)).Nodup := by
  unfold List.Nodup at *
  rw [List.pairwise_map]
  exact h.imp fun {a b} k e => k (Sum.inr.inj e)
theorem windows_nd {b : Bk} {l : Lst} (h : LOk l) : (((wished b l).filterMap fun x => some ((Sum.inr x.n : Key), winD x.win)).map (·.1)).Nodup := by
  have e : ((wished b l).filterMap fun x => some ((Sum.inr x.n : Key), winD x.win)).map (·.1) = ((wished b l).map (·.n)).map fun n => (Sum.inr n : Key) := by
    rw [show (fun x : Wi => some ((Sum.inr x.n : Key), winD x.win)) = some ∘ fun x => ((Sum.inr x.n : Key), winD x.win) from rfl, List.filterMap_eq_map, List.map_map, List.map_map]
    rfl
  rw [e]
  exact nodup_inr (wished_nd h)
theorem sortN_perm (ns : List Str) : (sortN ns).Perm ns := List.mergeSort_perm _ _
theorem look_is {α : Type} {l : List (Str × α)} {n : Str} (h : n ∈ l.map (·.1)) : ∃ a, look l n = some a := by
  unfold look
  cases e : l.find? (fun x => decide (x.1 = n)) with
  | some x => exact ⟨x.2, rfl⟩
  | none =>
    obtain ⟨x, hx, rfl⟩ := List.mem_map.mp h
    have := List.find?_eq_none.mp e x hx
    simp at this
theorem fold_snoc {α β : Type} (f : α → β) (as : List α) (acc : List β) : as.foldl (fun s a => s ++ [f a]) acc = acc ++ as.map f := by
  induction as generalizing acc with
  | nil => simp
  | cons a as ih => rw [List.foldl_cons, ih, List.map_cons, List.append_assoc]; rfl
theorem allD_of {α : Type} (f : α → Dt) (as : List α) : AllD (as.map fun a => Sv.dat (f a)) (as.map f) := by
  rw [show (fun a => Sv.dat (f a)) = Sv.dat ∘ f from rfl, ← List.map_map]
  exact .map _
theorem fold_filter {α β : Type} (q : α → Bool) (f : α → β) (as : List α) (acc : List β) : as.foldl (fun s a => if q a = true then s ++ [f a] else s) acc = acc ++ (as.filter q).map f := by
  induction as generalizing acc with
  | nil => simp
  | cons a as ih =>
    rw [List.foldl_cons, ih]
    cases h : q a <;> simp [h]
def bnRaw (b : Bk) (l : Lst) (e : Ep) : List Bn := ((wished b l).filter fun x => decide (x.s.ep = e)).map Wi.bn
theorem bn_perm (b : Bk) (l : Lst) (e : Ep) : (bnOf b l e).Perm (bnRaw b l e) := List.mergeSort_perm _ _
theorem fm_if {α β : Type} (q : α → Bool) (f : α → β) (l : List α) : l.filterMap (fun x => if q x = true then some (f x) else none) = (l.filter q).map f := by
  induction l with
  | nil => rfl
  | cons a l ih =>
    rw [List.filterMap_cons, List.filter_cons]
    cases h : q a with
    | true => simp [ih]
    | false => simp [ih]
end SP
namespace SP
open PySem PySem.Spec PyProof.Rows L2 DD
/-- the first receiver that is free -/
def freeAt (ws : List (Str × Win)) (p : Plan) (k : Nat) (n : Str) : Option Nat := (List.range k).find? fun r => (onRec ws p (r : Int) n).isEmpty
def firstFree (ws : List (Str × Win)) (p : Plan) (k : Nat) : List Str → Option (Str × Int)
  | [] => none
  | n :: ns => match freeAt ws p k n with
    | some r => some (n, (r : Int))
    | none => firstFree ws p k ns
def addTo (p : Plan) : Option (Str × Int) → Plan
  | some x => p ++ [x]
  | none => p
def takeStep (b : Bk) (l : Lst) (k : Nat) (p : Plan) (e : Ep) : Plan := addTo p (firstFree (windows b l) p k (sendsOf b l e))
def taken (b : Bk) (l : Lst) (k : Nat) : Plan := (wishes b l).foldl (takeStep b l k) []
theorem on_out {ws : List (Str × Win)} {p : Plan} {r : Int} {w : Win} (h : ∀ x ∈ p, x.2 < r) : onRecW ws p r w = [] := by
  unfold onRecW
  have e : ((sortN (p.map (·.1))).filter fun o => decide (look p o = some r)) = [] := by
    rw [List.filter_eq_nil_iff]
    intro o ho z
    have := h _ (look_some (of_decide_eq_true z))
    exact absurd this (Int.lt_irrefl _)
  rw [e]
  rfl
end SP
namespace SP
open PySem PySem.Spec PyProof.Rows L2 DD
theorem wished_inj {b : Bk} {l : Lst} (hl : LOk l) {x y : Wi} (hx : x ∈ wished b l) (hy : y ∈ wished b l) (h : x.n = y.n) : x = y := by
  obtain ⟨x1, x2⟩ := wished_mem.mp hx
  obtain ⟨y1, y2⟩ := wished_mem.mp hy
  have e1 := hl.get x1
  have e2 := hl.get y1
  dsimp only at e1 e2
  rw [h, e2] at e1
  have e3 : y.s = x.s := Option.some.inj e1
  rw [e3, x2] at y2
  have e4 := Option.some.inj y2
  cases x; cases y
  simp_all
theorem sends_mem {b : Bk} {l : Lst} {e : Ep} {n : Str} : n ∈ sendsOf b l e ↔ ∃ x ∈ wished b l, x.n = n ∧ x.s.ep = e := by
  unfold sendsOf
  rw [List.mem_map]
  constructor
  · rintro ⟨r, hr, rfl⟩
    obtain ⟨x, hx, rfl⟩ := List.mem_map.mp ((bn_perm b l e).mem_iff.mp hr)
    obtain ⟨h1, h2⟩ := List.mem_filter.mp hx
    exact ⟨x, h1, rfl, of_decide_eq_true h2⟩
  · rintro ⟨x, hx, rfl, he⟩
    exact ⟨x.bn, (bn_perm b l e).mem_iff.mpr (List.mem_map.mpr ⟨x, List.mem_filter.mpr ⟨hx, decide_eq_true he⟩, rfl⟩), rfl⟩
theorem win_look {b : Bk} {l : Lst} (hl : LOk l) {x : Wi} (hx : x ∈ wished b l) : look (windows b l) x.n = some x.win := by
  have h : (x.n, x.win) ∈ windows b l := List.mem_map.mpr ⟨x, hx, rfl⟩
  refine look_mem (x := (x.n, x.win)) ?_ h
  have e : (windows b l).map (·.1) = (wished b l).map (·.n) := by unfold windows; rw [List.map_map]; rfl
  rw [e]
  exact wished_nd hl
theorem free_lt {ws : List (Str × Win)} {p : Plan} {k r : Nat} {n : Str} (h : freeAt ws p k n = some r) : r < k := by
  unfold freeAt at h
  rw [List.find?_range_eq_some] at h
  exact List.mem_range.mp h.2.1
theorem first_mem {ws : List (Str × Win)} {p : Plan} {k : Nat} : ∀ {ns : List Str} {x : Str × Int}, firstFree ws p k ns = some x → x.1 ∈ ns ∧ ∃ r : Nat, r < k ∧ x.2 = (r : Int)
  | [], x, h => by cases h
  | n :: ns, x, h => by
    unfold firstFree at h
    cases e : freeAt ws p k n with
    | some r => rw [e] at h; cases h; exact ⟨List.mem_cons_self, r, free_lt e, rfl⟩
    | none =>
      rw [e] at h
      obtain ⟨h1, h2⟩ := first_mem h
      exact ⟨List.mem_cons_of_mem _ h1, h2⟩
structure PInv (b : Bk) (l : Lst) (k : Nat) (pre : List Ep) (p : Plan) : Prop where
  mem : ∀ x ∈ p, (∃ w ∈ wished b l, w.n = x.1 ∧ w.s.ep ∈ pre) ∧ 0 ≤ x.2 ∧ x.2 < (k : Int)
  nd : (p.map (·.1)).Nodup
  len : p.length ≤ pre.length
theorem PInv.new {b : Bk} {l : Lst} {k : Nat} {pre : List Ep} {p : Plan} (hl : LOk l) (h : PInv b l k pre p) {e : Ep} (he : e ∉ pre) {n : Str} (hn : n ∈ sendsOf b l e) : n ∉ p.map (·.1) := by
  intro z
  obtain ⟨x, hx, rfl⟩ := List.mem_map.mp z
  obtain ⟨⟨w, hw, e1, e2⟩, _⟩ := h.mem x hx
  obtain ⟨w', hw', e3, e4⟩ := sends_mem.mp hn
  have := wished_inj hl hw hw' (by rw [e1, e3])
  subst this
  exact he (e4 ▸ e2)
theorem PInv.ok {b : Bk} {l : Lst} (hl : LOk l) {k : Nat} {pre : List Ep} {p : Plan} (h : PInv b l k pre p) (hp : pre.length ≤ 10) : POk p ∧ (∀ x ∈ p, (look (windows b l) x.1).isSome) := by
  refine ⟨⟨h.nd, Nat.le_trans h.len hp⟩, fun x hx => ?_⟩
  obtain ⟨⟨w, hw, e1, _⟩, _⟩ := h.mem x hx
  rw [← e1, win_look hl hw]
  rfl
end SP
namespace SP
open PySem PySem.Spec PyProof.Rows L2 DD
def ctIsRec : Ct := fun ss st ok _ => ∃ k : Nat, ss = [dI (k : Int)] ∧ 1 ≤ k ∧ k ≤ 10 ∧ ok (.dat (.bl true)) st
def ctChkRec : Ct := fun ss st ok _ => ∃ k : Nat, ss = [dI (k : Int)] ∧ 1 ≤ k ∧ k ≤ 10 ∧ ok (.dat .non) st
def ownPlan (b : Bk) (l : Lst) (k : Nat) : Plan := asc (taken b l k)
def epAt (l : Lst) (n : Str) : Ep := ((look l n).map Snd.ep).getD ("", 0)
def recorded (b : Bk) (l : Lst) (k : Nat) : List Ep := (ownPlan b l k).map fun x => epAt l x.1
def wiOf (b : Bk) (l : Lst) (n : Str) : Option Wi := (wished b l).find? fun x => decide (x.n = n)
theorem nodup_of {α : Type} {l : List (Str × α)} {f : Str × α → Key × Dt} (h : (l.map (·.1)).Nodup) (hf : ∀ x, (f x).1 = Sum.inr x.1 := by intro _; rfl) : (l.map ((fun kv : Key × Dt => kv.1) ∘ f)).Nodup := by
  have e : l.map ((fun kv : Key × Dt => kv.1) ∘ f) = (l.map (·.1)).map fun n => (Sum.inr n : Key) := by
    rw [List.map_map]
    exact List.map_congr_left fun x _ => hf x
  rw [e]
  exact nodup_inr h
end SP
namespace SP
open PySem PySem.Spec PyProof.Rows L2 DD
/-- Book(rules, seen) -/
@[irreducible] def ctBook (c : Cl) : Ct := fun ss st ok _ => ∃ (q : Addr) (st0 : Store) (rs : List Rul) (es : List Ep), ss = [.own q, .dat (.tup (rs.map (Rul.d c.R))), .dat (.tup (es.map epD))] ∧ st = (q, .ins c.B []) :: st0 ∧ rs.length ≤ 6 ∧
  ok (.dat .non) ((q, .ins c.B [("_rules", .dat (.tup (rs.map (Rul.d c.R)))), ("_seen", .dat (.tup (es.map epD)))]) :: st0)
theorem ctBook_eq (c : Cl) {ss : List Sv} {st : Store} {ok : OK} {ex : EK} : ctBook c ss st ok ex = ∃ (q : Addr) (st0 : Store) (rs : List Rul) (es : List Ep), ss = [.own q, .dat (.tup (rs.map (Rul.d c.R))), .dat (.tup (es.map epD))] ∧ st = (q, .ins c.B []) :: st0 ∧ rs.length ≤ 6 ∧
  ok (.dat .non) ((q, .ins c.B [("_rules", .dat (.tup (rs.map (Rul.d c.R)))), ("_seen", .dat (.tup (es.map epD)))]) :: st0) := by unfold ctBook; rfl
theorem sortN_same {ns : List Str} (h : ns.Pairwise fun a b => a.cps.toList < b.cps.toList) : sortN ns = ns := by
  refine (sort_unique strLe_trans strLe_total strLe_anti (List.Perm.refl ns) (h.imp fun {a b} k => ?_)).symm
  unfold strLe
  exact decide_eq_true (Std.le_of_lt k)
theorem names_depth : ∀ es : List Str, PyData.depthAll (es.map PyData.str) = 0
  | [] => rfl
  | e :: es => by
    rw [List.map_cons, PyData.depthAll, names_depth es]
    simp [PyData.depth]
theorem rok_none {r : Rul} (h : ROk r) : wrongR (.str r.show_) (.int r.first) (.int r.last) (.int r.priority) (.int r.before) (.int r.after) = none := by
  have h1 : wordD (.str r.show_) = true := h.sh
  have n : ∀ {i a b : Int}, a ≤ i → i ≤ b → isNum (.int i) a b = true := fun {i a b} x y => by unfold isNum; dsimp only; rw [decide_eq_true x, decide_eq_true y]; rfl
  unfold wrongR
  rw [h1, n h.f1 (Int.le_trans h.f2 h.l2), show inI (.int r.first) = r.first from rfl, n h.f2 h.l2, n h.p1 h.p2, n h.b0 h.b1, n h.a0 h.a1]
  rfl
theorem sok_none {r : Snd} (h : SOk r) : wrongS (.str r.channel) (.str r.show_) (.int r.episode) (.int r.begin_) (.int r.end_) (.int r.late) = none := by
  have h1 : wordD (.str r.show_) = true := h.sh
  have h0 : wordD (.str r.channel) = true := h.ch
  have n : ∀ {i a b : Int}, a ≤ i → i ≤ b → isNum (.int i) a b = true := fun {i a b} x y => by unfold isNum; dsimp only; rw [decide_eq_true x, decide_eq_true y]; rfl
  unfold wrongS
  rw [h0, h1, n h.e1 h.e2, n h.b0 h.b1, show inI (.int r.begin_) = r.begin_ from rfl, n (show r.begin_ + 1 ≤ r.end_ from h.n0) h.n1, n h.l0 h.l1]
  rfl
end SP
namespace SP
open PySem PySem.Spec PyProof.Rows L2 DD
def epKey (e : Ep) : List Key := [.inr e.1, .inl e.2]
end SP
namespace SP
open PySem PySem.Spec PyProof.Rows L2 DD
def rulP (r : Rul) : PyData := .tuple [.str r.show_, .int r.first, .int r.last, .int r.priority, .int r.before, .int r.after]
theorem ruls_lay (rs : List Rul) (h : ∀ r ∈ rs, isWord r.show_ = true) : PyData.canLayAll0 (rs.map rulP) = true := by
  induction rs with
  | nil => rfl
  | cons e es ih =>
    rw [List.map_cons]
    unfold PyData.canLayAll0
    rw [ih fun e h' => h e (List.mem_cons_of_mem _ h')]
    have hs : PyData.strOk e.show_ = true := word_ok (h e List.mem_cons_self)
    simp [rulP, PyData.canLay0, PyData.canLayAll0, hs]
theorem ruls_depth : ∀ es : List Rul, PyData.depthAll (es.map rulP) ≤ 1
  | [] => Nat.zero_le _
  | e :: es => by
    rw [List.map_cons, PyData.depthAll]
    have h1 : (rulP e).depth ≤ 1 := by simp [rulP, PyData.depth, PyData.depthAll]
    have := ruls_depth es
    omega
theorem ruls_shaped (rs : List Rul) (h : ∀ r ∈ rs, isWord r.show_ = true) : SeqAt.shaped (.list (rs.map rulP)) = true := by
  have h1 : (PyData.list (rs.map rulP)).canLay0 = true := by rw [PyData.canLay0]; exact ruls_lay rs h
  have h2 : (PyData.list (rs.map rulP)).depth ≤ 64 := by
    have := ruls_depth rs
    rw [PyData.depth]
    omega
  unfold SeqAt.shaped
  rw [h1, decide_eq_true h2]
  rfl
theorem nil_shaped : SeqAt.shaped (.list []) = true := ruls_shaped [] (fun r h => (by cases h))
end SP
namespace SP
open PySem PySem.Spec PyProof.Rows L2 DD
def wi1 (b : Bk) (x : Str × Snd) : List Wi := ((ruleFor b x.2).map fun r => (⟨x.1, x.2, r⟩ : Wi)).toList
def wiAdd (b : Bk) (ws : List Wi) (x : Str × Snd) : List Wi := ws ++ wi1 b x
theorem wiAdd_none {b : Bk} {ws : List Wi} {x : Str × Snd} (h : ruleFor b x.2 = none) : wiAdd b ws x = ws := by
  unfold wiAdd wi1
  rw [h]
  exact List.append_nil _
theorem wiAdd_some {b : Bk} {ws : List Wi} {x : Str × Snd} {r : Rul} (h : ruleFor b x.2 = some r) : wiAdd b ws x = ws ++ [⟨x.1, x.2, r⟩] := by
  unfold wiAdd wi1
  rw [h]
  rfl
theorem wiAdd_fold (b : Bk) : ∀ (l : Lst) (ws : List Wi), l.foldl (wiAdd b) ws = ws ++ wished b l
  | [], ws => by simp [wished]
  | x :: l, ws => by
    rw [List.foldl_cons, wiAdd_fold b l]
    unfold wished
    rw [List.filterMap_cons]
    cases h : ruleFor b x.2 with
    | none => rw [wiAdd_none h]; rfl
    | some r => rw [wiAdd_some h, List.append_assoc]; rfl
theorem wiAdd_all (b : Bk) (l : Lst) : l.foldl (wiAdd b) [] = wished b l := by rw [wiAdd_fold, List.nil_append]
end SP
namespace SP
open PySem PySem.Spec PyProof.Rows L2 DD
end SP
namespace SP
open PySem PySem.Spec PyProof.Rows L2 DD
end SP
namespace SP
open PySem PySem.Spec PyProof.Rows L2 DD
end SP
namespace SP
open PySem PySem.Spec PyProof.Rows L2 DD
end SP
namespace SP
open PySem PySem.Spec PyProof.Rows L2 DD
end SP
namespace DD
open PySem PySem.Spec PyProof.Rows L2
@[irreducible] def lcO (g : DG) (tt : DT) (te : DE) (vs : List Nat) (p : Addr) (xs : List Sv) (Δ : List Sv) (st1 : Store) (ok : OK) : Prop := ∀ D, D ∉ keys st1 → ∃ J : Nat → List Sv → Store → Prop, J 0 [] st1 ∧ (∀ i acc st', J i acc st' → ∃ j : Nat, st'[j]? = some (p, Ob.lst xs)) ∧
  (∀ i d acc st', xs[i]? = some d → J i acc st' → D ∉ keys st' → g d (wipeD Δ vs) ((D, .lst acc) :: st') fun Δ2 st2 => tt Δ2 st2 (fun b st3 =>
    (b = true → te Δ2 st3 (fun y st4 => ∃ acc' st5, st4 = (D, .lst acc') :: st5 ∧ acc'.length < sizeLine ∧ J (i + 1) (acc' ++ [y]) st5) fun _ _ => False) ∧ (b = false → ∃ acc' st5, st3 = (D, .lst acc') :: st5 ∧ J (i + 1) acc' st5)) fun _ _ => False) ∧
  ∀ acc st', J xs.length acc st' → ∃ ds, AllD acc ds ∧ ok (.dat (.lst ds)) st'
theorem lcO_eq (g : DG) (tt : DT) (te : DE) (vs : List Nat) (p : Addr) (xs : List Sv) (Δ : List Sv) (st1 : Store) (ok : OK) : lcO g tt te vs p xs Δ st1 ok = (∀ D, D ∉ keys st1 → ∃ J : Nat → List Sv → Store → Prop, J 0 [] st1 ∧ (∀ i acc st', J i acc st' → ∃ j : Nat, st'[j]? = some (p, Ob.lst xs)) ∧
  (∀ i d acc st', xs[i]? = some d → J i acc st' → D ∉ keys st' → g d (wipeD Δ vs) ((D, .lst acc) :: st') fun Δ2 st2 => tt Δ2 st2 (fun b st3 =>
    (b = true → te Δ2 st3 (fun y st4 => ∃ acc' st5, st4 = (D, .lst acc') :: st5 ∧ acc'.length < sizeLine ∧ J (i + 1) (acc' ++ [y]) st5) fun _ _ => False) ∧ (b = false → ∃ acc' st5, st3 = (D, .lst acc') :: st5 ∧ J (i + 1) acc' st5)) fun _ _ => False) ∧
  ∀ acc st', J xs.length acc st' → ∃ ds, AllD acc ds ∧ ok (.dat (.lst ds)) st') := by
  unfold lcO
  rfl
theorem walk_own {K : PySem.W.Frag} {a : Addr} {n : Nat} : Walk (Itl K a) n (fun H => ∃ xs, SqL K H a xs ∧ xs.length = n) (fun i H x H' => H' = H ∧ ∀ xs, SqL K H a xs → xs[i]? = some x) :=
  ⟨fun i _ hi ⟨xs, q, e⟩ => ⟨xs, xs[i], q, by simp [e, hi]⟩, fun _ ⟨xs, q, e⟩ => ⟨xs, q, Nat.le_of_eq e⟩, fun _ _ _ _ _ _ y => ⟨y.1, y.2⟩⟩
section
variable {K : PySem.W.Frag} {W : WX} {st : Store} {I H : Hp}
theorem lcO_go {g : DG} {tt : DT} {te : DE} {vs : List Nat} {Δ : List Sv} {ok : OK} {σ : L2.St} {Q : VK} {p : Addr} {xs : List Sv} (w1 : Wd K st I H) (sl : Sl K Δ I σ) (h1 : lcO g tt te vs p xs Δ st ok) (c : Cont K st I H ok Q) :
    ∀ D, H D = none → ∃ W : Nat → Nat → Hp → Prop, (∃ m, W 0 m (upd H D (.lst []))) ∧ ∀ i m H, W i m H →
  ((Itl K p).stop i H ∧ Q (.ref D) H) ∨ ((Itl K p).go i H ∧ ∃ Nx : Hp → Prop, (∀ H', Nx H' → ∃ m', m' < m ∧ W (i + 1) m' H') ∧ ∀ x H', (Itl K p).yld i H x H' → lowGw K vs g x (wipe σ vs) H' fun σ2 H2 => wipe σ2 vs = wipe σ vs ∧ lowT K tt W0 σ2 H2 fun b H3 =>
    if b = true then low K te W0 σ2 H3 fun y H4 => ∃ acc, H4 D = some (.lst acc) ∧ acc.length < sizeLine ∧ Nx (upd H4 D (.lst (acc ++ [y]))) else Nx H3) := by
  intro D hD
  obtain ⟨np, w2, s2⟩ := new_own (o := .lst []) (ob := .lst []) w1 hD (.lst .nil)
  rw [lcO_eq] at h1
  obtain ⟨Jv, j0, jp, jt, je⟩ := h1 D np
  have at_p : ∀ {i acc st' I' H'}, Jv i acc st' → Wd K ((D, .lst acc) :: st') I' H' → ∃ us, SqL K H' p us ∧ IsSs K I' xs us := fun {i acc st' I' H'} hj w' => by
    obtain ⟨j, hjj⟩ := jp i acc st' hj
    obtain ⟨o, ho, io⟩ := own_at (j := j + 1) w' hjj
    cases io with
    | lst hs => exact ⟨_, .inl (.inl ho), hs⟩
  refine lc_it (walk_own (n := xs.length)) (fun i H' => ∃ acc st' I', Jv i acc st' ∧ Wd K ((D, .lst acc) :: st') I' H' ∧ Stp st I H ((D, .lst acc) :: st') I' H') ⟨[], st, I, j0, w2, s2⟩ (fun i H' _ ⟨acc, st', I', hj, w', s'⟩ => ?_) ?_ ?_
  · obtain ⟨us, q, hs⟩ := at_p hj w'
    exact ⟨us, q, (paired_len hs).symm⟩
  · rintro i x H' H3 hi ⟨acc, st', I', hj, w', s'⟩ ⟨e3, y⟩
    subst e3
    obtain ⟨us, q, hs⟩ := at_p hj w'
    obtain ⟨d, hd, ix⟩ := paired_back hs (y us q)
    have nd : D ∉ keys st' := (List.nodup_cons.mp w'.nd).1
    refine ⟨d, _, _, I', _, w', sl_wipe (sl.mono s'.ii) vs, ix, jt i d acc st' hd hj nd, fun Δ4 st4 σ4 I4 H4 h4 w4 s4 l4 e4 => ?_⟩
    have s14 := s'.trans s4
    refine ⟨by rw [e4, wipe_wipe], ?_⟩
    refine lowT_go w4 l4 h4 (fun b st5 I5 H5 h5 w5 s5 => ?_) (fun _ _ _ _ _ _ z => z.elim)
    have s15 := s14.trans s5
    cases b with
    | true =>
      refine iteT (low_go w5 (l4.mono s5.ii) (h5.1 rfl) (fun z st6 u I6 H6 h6 w6 s6 i6 => ?_) (fun _ _ _ _ _ _ z => z.elim))
      obtain ⟨acc', st7, rfl, hl, hj'⟩ := h6
      obtain ⟨_, o, ho, io⟩ := w6.own D _ List.mem_cons_self
      cases io with
      | @lst _ ws hs =>
        obtain ⟨w7, s7⟩ := set_own (j := 0) (o' := .lst (ws ++ [u])) (ob' := .lst (acc' ++ [z])) w6 rfl (.lst (paired_app hs (.cons i6 .nil)))
        exact ⟨ws, ho, by rw [← paired_len hs]; exact hl, acc' ++ [z], st7, I6, hj', w7, (s15.trans s6).trans s7⟩
    | false =>
      refine iteF ?_
      obtain ⟨acc', st7, rfl, hj'⟩ := h5.2 rfl
      exact ⟨acc', st7, I5, hj', w5, s15⟩
  · rintro H' ⟨acc, st', I', hj, w', s'⟩
    obtain ⟨ds, ha, hok⟩ := je _ _ hj
    obtain ⟨_, o, ho, io⟩ := w'.own D _ List.mem_cons_self
    cases io with
    | lst hs =>
      obtain ⟨w9, s9, e9⟩ := pub_head w' ho s'
      exact c _ _ _ _ _ hok w9 s9 (.dat (.lst upd_same ((isDs_of ha hs).mono e9)))
def dLcO (te : DE) (g : DG) (tt : DT) (el : DE) (vs : List Nat) : DE := fun Δ st ok ex => te Δ st (fun x st1 => match x with
  | .own p => ∃ (j : Nat) (xs : List Sv), st1[j]? = some (p, Ob.lst xs) ∧ lcO g tt el vs p xs Δ st1 ok
  | _ => False) ex
theorem low_lcO {te el : DE} {g : DG} {tt : DT} {vs : List Nat} : ∀ σ H Q, low K (dLcO te g tt el vs) W σ H Q → tLc (iList K (low K te W)) (lowGw K vs g) (lowT K tt W0) (low K el W0) vs σ H Q := by
  rintro σ H Q ⟨Δ, st, I, ok, ex, wd, sl, h, c, cx⟩
  refine low_go wd sl h (fun x st1 v I1 H1 h1 w1 s1 i1 => ?_) cx
  cases i1 with
  | dat hd => exact h1.elim
  | own p =>
    obtain ⟨j, xs, hj, h1⟩ := h1
    obtain ⟨o, ho, io⟩ := own_at w1 hj
    cases io with
    | lst hs => exact ⟨p, rfl, ⟨_, .inl (.inl ho)⟩, lcO_go w1 (sl.mono s1.ii) h1 (c.go s1)⟩
end
theorem dlcO {X : Cx} {W : WX} {elt tg iter : Expr} {ifs : List Expr} {scope : Scope} {pos : Pos} (own : List (Str × Nat)) {ti te : DE} {g : DG} {tt : DT} (hN : X.N.Nodup) (hi : PEd X W iter ti) (ok : BlkOk X.N X.env.scope scope own)
    (hg : ∀ (s : Shared) (H : Hp) (C : Addr) (cl : List (Str × Addr)) (fp : List Addr), PGw (X.blk s H scope (compEnvC scope cl C X.env) fp) (own.map (·.2)) tg g) (ht : ∀ (s : Shared) (H : Hp) (C : Addr) (cl : List (Str × Addr)) (fp : List Addr), PTsd (X.blk s H scope (compEnvC scope cl C X.env) fp) ifs tt)
    (he : ∀ (s : Shared) (H : Hp) (C : Addr) (cl : List (Str × Addr)) (fp : List Addr), PEd (X.blk s H scope (compEnvC scope cl C X.env) fp) W0 elt te) (hc : X.calm = true := by rfl) (hs : ∀ x, foldedSetIterable iter X.env x = pure x := by intro _; rfl) :
    PEd X W (.ListComp elt [⟨tg, iter, ifs, 0⟩] scope pos) (dLcO ti g tt te (own.map (·.2))) := PE.imp (pe_lc hc hN (pi_list hi) ok hg ht he hs) low_lcO
/-- what is made, the store as it was -/
theorem lcO_pure {α : Type} {g : DG} {tt : DT} {te : DE} {vs : List Nat} {p : Addr} {xs : List Sv} {Δ : List Sv} {st : Store} {ok : OK} (as : List α) (e : α → Dt) (f : α → Option Dt) (hx : xs = as.map fun a => .dat (e a)) {j : Nat} (hp : st[j]? = some (p, Ob.lst xs))
    (hb : ∀ (i : Nat) a D acc, as[i]? = some a → D ∉ keys st → LcJ as f st i acc st → g (.dat (e a)) (wipeD Δ vs) ((D, .lst acc) :: st) fun Δ2 st2 => tt Δ2 st2 (fun b st3 =>
      (b = true → te Δ2 st3 (fun y st4 => ∃ acc' st5, st4 = (D, .lst acc') :: st5 ∧ acc'.length < sizeLine ∧ LcJ as f st (i + 1) (acc' ++ [y]) st5) fun _ _ => False) ∧ (b = false → ∃ acc' st5, st3 = (D, .lst acc') :: st5 ∧ LcJ as f st (i + 1) acc' st5)) fun _ _ => False)
    (hk : ok (.dat (.lst (as.filterMap f))) st) : lcO g tt te vs p xs Δ st ok := by
  subst hx
  rw [lcO_eq]
  intro D hD
  refine ⟨LcJ as f st, ⟨rfl, by simp⟩, ?_, ?_, ?_⟩
  · rintro i acc st' J
    obtain rfl := J.st
    exact ⟨j, hp⟩
  · rintro i d acc st' hd J hD'
    obtain rfl := J.st
    rw [List.getElem?_map] at hd
    cases ea : as[i]? with
    | none => rw [ea] at hd; cases hd
    | some a =>
      rw [ea] at hd
      cases hd
      exact hb i a D acc ea hD' J
  · rintro acc st' J
    obtain rfl := J.st
    have e := J.acc
    rw [List.length_map, List.take_length] at e
    subst e
    exact ⟨_, .map _, hk⟩
end DD
namespace SP
open PySem PySem.Spec PyProof.Rows L2 DD
end SP
namespace SP
open PySem PySem.Spec PyProof.Rows L2 DD
theorem count_fold {α : Type} (l : List α) (c : Nat) : l.foldl (fun s _ => s + 1) c = c + l.length := by
  induction l generalizing c with
  | nil => rfl
  | cons a l ih => rw [List.foldl_cons, ih, List.length_cons]; omega
end SP
namespace SP
open PySem PySem.Spec PyProof.Rows L2 DD
end SP
namespace SP
open PySem PySem.Spec PyProof.Rows L2 DD
end SP
namespace SP
open PySem PySem.Spec PyProof.Rows L2 DD
theorem sortN_pw (ns : List Str) : (sortN ns).Pairwise fun a b => strLe a b = true := List.pairwise_mergeSort strLe_trans strLe_total ns
end SP
namespace SP
open PySem PySem.Spec PyProof.Rows L2 DD
end SP
namespace SP
open PySem PySem.Spec PyProof.Rows L2 DD
theorem word_at2 {ws : List Str} (hw : ∀ z ∈ ws, isWord z = true) {n : Int} (h0 : 0 ≤ n) (h1 : n < ws.length) : ∃ z, isWord z = true ∧ z ∈ ws ∧ atI ((ws.map Dt.str).map Sv.dat) n = some (.dat (.str z)) := by
  obtain ⟨x, hx, hx2⟩ := atI_of (xs := (ws.map Dt.str).map Sv.dat) h0 (by simpa using h1)
  rw [List.getElem?_map, List.getElem?_map] at hx
  cases hz : ws[n.toNat]? with
  | none => rw [hz] at hx; cases hx
  | some z =>
    rw [hz] at hx
    cases hx
    exact ⟨z, hw z (List.mem_of_getElem? hz), List.mem_of_getElem? hz, hx2⟩
theorem num_at (ws : List Int) {n : Int} (h0 : 0 ≤ n) (h1 : n < ws.length) : ∃ z, z ∈ ws ∧ atI ((ws.map Dt.int).map Sv.dat) n = some (.dat (.int z)) := by
  obtain ⟨x, hx, hx2⟩ := atI_of (xs := (ws.map Dt.int).map Sv.dat) h0 (by simpa using h1)
  rw [List.getElem?_map, List.getElem?_map] at hx
  cases hz : ws[n.toNat]? with
  | none => rw [hz] at hx; cases hx
  | some z =>
    rw [hz] at hx
    cases hx
    exact ⟨z, List.mem_of_getElem? hz, hx2⟩
/-- a comprehension that changes the store -/
def LcR (R : Nat → List Dt → Store → Prop) : Nat → List Sv → Store → Prop := fun i acc st' => ∃ ds, acc = ds.map Sv.dat ∧ R i ds st'
theorem lc_state {α : Type} {g : DG} {tt : DT} {te : DE} {vs : List Nat} {xs : List Sv} {Δ : List Sv} {st : Store} {ok : OK} (as : List α) (e : α → Dt) (R : Nat → List Dt → Store → Prop) (hx : xs = as.map fun a => .dat (e a)) (h0 : R 0 [] st)
    (hb : ∀ i a D ds st', as[i]? = some a → D ∉ keys st' → R i ds st' → g (.dat (e a)) (wipeD Δ vs) ((D, .lst (ds.map Sv.dat)) :: st') fun Δ2 st2 => tt Δ2 st2 (fun b st3 =>
      (b = true → te Δ2 st3 (fun y st4 => ∃ acc' st5, st4 = (D, Ob.lst acc') :: st5 ∧ acc'.length < sizeLine ∧ LcR R (i + 1) (acc' ++ [y]) st5) fun _ _ => False) ∧ (b = false → ∃ acc' st5, st3 = (D, Ob.lst acc') :: st5 ∧ LcR R (i + 1) acc' st5)) fun _ _ => False)
    (hk : ∀ ds st', R as.length ds st' → ok (.dat (.lst ds)) st') : lcD g tt te vs xs Δ st ok := by
  subst hx
  rw [lcD_eq]
  intro D hD
  refine ⟨LcR R, ⟨[], rfl, h0⟩, ?_, ?_⟩
  · rintro i d acc st' hd ⟨ds, rfl, hR⟩ hD'
    rw [List.getElem?_map] at hd
    cases ea : as[i]? with
    | none => rw [ea] at hd; cases hd
    | some a =>
      rw [ea] at hd
      cases hd
      exact hb i a D ds st' ea hD' hR
  · rintro acc st' ⟨ds, rfl, hR⟩
    rw [List.length_map] at hR
    exact ⟨ds, .map _, hk ds st' hR⟩
theorem lcr_yes {R : Nat → List Dt → Store → Prop} {i : Nat} {D : Addr} {ds : List Dt} {st : Store} {d : Dt} (hl : ds.length < sizeLine) (h : R (i + 1) (ds ++ [d]) st) :
    ∃ acc' st5, ((D, Ob.lst (ds.map Sv.dat)) :: st) = (D, .lst acc') :: st5 ∧ acc'.length < sizeLine ∧ LcR R (i + 1) (acc' ++ [.dat d]) st5 :=
  ⟨_, st, rfl, by rw [List.length_map]; exact hl, ds ++ [d], by rw [List.map_append]; rfl, h⟩
theorem lcr_no {R : Nat → List Dt → Store → Prop} {i : Nat} {D : Addr} {ds : List Dt} {st : Store} (h : R (i + 1) ds st) :
    ∃ acc' st5, ((D, Ob.lst (ds.map Sv.dat)) :: st) = (D, .lst acc') :: st5 ∧ LcR R (i + 1) acc' st5 := ⟨_, st, rfl, ds, rfl, h⟩
end SP
namespace SP
open PySem PySem.Spec PyProof.Rows L2 DD
def txtP (n : Str) : PyData := .str n
theorem txt_of (n : Str) : PyOf (.str n) (txtP n) := .str n
theorem txts_of : ∀ ns : List Str, PyOfs (ns.map Dt.str) (ns.map txtP)
  | [] => .nil
  | n :: ns => .cons (txt_of n) (txts_of ns)
theorem txt_shaped (n : Str) (h : isWord n = true) : SeqAt.shaped (txtP n) = true := by
  have hs : PyData.strOk n = true := word_ok h
  have hc : (txtP n).canLay0 = true := by simp [txtP, PyData.canLay0, hs]
  have hd : (txtP n).depth ≤ 64 := by simp [txtP, PyData.depth]
  unfold SeqAt.shaped
  rw [hc, decide_eq_true hd]
  rfl
theorem txts_lay (ns : List Str) (h : ∀ n ∈ ns, isWord n = true) : PyData.canLayAll0 (ns.map txtP) = true := by
  induction ns with
  | nil => rfl
  | cons e es ih =>
    rw [List.map_cons]
    unfold PyData.canLayAll0
    rw [ih fun e h' => h e (List.mem_cons_of_mem _ h')]
    have hs : PyData.strOk e = true := word_ok (h e List.mem_cons_self)
    simp [txtP, PyData.canLay0, hs]
theorem txt_eqv (a b : Str) : PyData.eqv (txtP a) (txtP b) = decide (a = b) := by
  unfold txtP
  simp only [PyData.eqv]
  by_cases h : a = b <;> simp [h]
theorem txt_any (es : List Str) (e : Str) : ((es.map txtP).any fun z => PyData.eqv z (txtP e)) = decide (e ∈ es) := by
  induction es with
  | nil => rfl
  | cons a es ih =>
    rw [List.map_cons, List.any_cons, ih, txt_eqv]
    by_cases h : a = e
    · subst h; simp
    · have h' : ¬ e = a := fun z => h z.symm
      simp [h, h']
end SP
namespace SP
open PySem PySem.Spec PyProof.Rows L2 DD
def OddK (d : Dt) : Prop := Pln d ∧ isNum d 1 10 = false
def ctIsRecX : Ct := fun ss st ok ex => ctIsRec ss st ok ex ∨ ∃ d, ss = [.dat d] ∧ OddK d ∧ ok (.dat (.bl false)) st
def ctChkRecX (I : Addr) : Ct := fun ss st ok ex => ctChkRec ss st ok ex ∨ ∃ d, ss = [.dat d] ∧ OddK d ∧ ex ⟨I, []⟩ st
theorem bl_sh (a : Bool) : SeqAt.shaped (.bool a) = true := by simp [SeqAt.shaped, PyData.canLay0, PyData.depth]
theorem bl_eqv (a b : Bool) : PyData.eqv (.bool a) (.bool b) = (a == b) := by cases a <;> cases b <;> simp [PyData.eqv]
end SP
namespace SP
open PySem PySem.Spec PyProof.Rows L2 DD
end SP
namespace SP
open PySem PySem.Spec PyProof.Rows L2 DD
def Bk.seen2 (b : Bk) (es : List Ep) : Bk := ⟨b.rules, b.seen ++ es⟩
def roundsF (l : Lst) (k : Nat) : Nat → Bk → List Plan
  | 0, _ => []
  | n + 1, b => if ownPlan b l k = [] then [] else ownPlan b l k :: roundsF l k n (b.seen2 (recorded b l k))
def roundsOf (b : Bk) (l : Lst) (k : Nat) : List Plan := roundsF l k 11 b
structure Like (b b' : Bk) : Prop where
  r : b.rules = b'.rules
  s : ∀ e, e ∈ b.seen ↔ e ∈ b'.seen
theorem Like.seen2 {b b' : Bk} (h : Like b b') {es es' : List Ep} (he : ∀ e, e ∈ es ↔ e ∈ es') : Like (b.seen2 es) (b'.seen2 es') := ⟨h.r, fun e => by
  show e ∈ b.seen ++ es ↔ e ∈ b'.seen ++ es'
  rw [List.mem_append, List.mem_append, h.s, he]⟩
/-- between two rounds -/
structure RS (b : Bk) (l : Lst) (k : Nat) (f : List Plan) (c : Bk) (n : Nat) : Prop where
  ok : BOk c
  eq : f ++ roundsF l k n c = roundsOf b l k
  few : (wished c l).length < n
  seen : c.seen.length + (wished c l).length ≤ 63
  len : f.length + n = 11
theorem RS.start {b : Bk} {l : Lst} (k : Nat) (hb : BOk b) (hl : LOk l) (hs : b.seen.length ≤ 53) : RS b l k [] b 11 := ⟨hb, rfl, by have := wished_len (b := b) hl; omega, by have := wished_len (b := b) hl; omega, rfl⟩
theorem RS.done {b : Bk} {l : Lst} {k : Nat} {f : List Plan} {c : Bk} {n : Nat} (R : RS b l k f c n) (h : ownPlan c l k = []) : roundsOf b l k = f := by
  have hn : 0 < n := by have := R.few; omega
  obtain ⟨m, rfl⟩ : ∃ m, n = m + 1 := ⟨n - 1, by omega⟩
  have := R.eq
  unfold roundsF at this
  rw [if_pos h, List.append_nil] at this
  exact this.symm
/-- and where each episode was -/
structure RW (b : Bk) (l : Lst) (f : List Plan) (c : Bk) (W : List (Ep × Nat)) : Prop where
  sub : ∀ w ∈ wished c l, w ∈ wished b l
  nd : (W.map (·.1)).Nodup
  w1 : ∀ y ∈ W, ∃ p, f[y.2]? = some p ∧ ∃ x ∈ p, epAt l x.1 = y.1
  w2 : ∀ (i : Nat) (p : Plan), f[i]? = some p → ∀ x ∈ p, (epAt l x.1, i) ∈ W
  w3 : ∀ y ∈ W, y.1 ∈ c.seen ∧ y.1 ∈ wishes b l
  cov : ∀ e ∈ wishes b l, e ∈ wishes c l ∨ e ∈ W.map (·.1)
  nm : ∀ p ∈ f, ∀ x ∈ p, ∃ w ∈ wished b l, w.n = x.1
  ln : ∀ p ∈ f, p.length ≤ 10
theorem RW.start (b : Bk) (l : Lst) : RW b l [] b [] := ⟨fun w h => h, by simp, fun y h => (by cases h), fun i p h => (by simp at h), fun y h => (by cases h), fun e h => .inl h, fun p h => (by cases h), fun p h => (by cases h)⟩
end SP
namespace DD
open PySem PySem.Spec PyProof.Rows L2
theorem among_snoc {at_ q : Pos} {c u : Value} : ∀ {l : List Value}, TriplesOk l → codeAmong q (l ++ [rawInt at_.line, rawInt at_.col, c]) = some u → codeAmong q l = some u ∨ u = c := fun {l} ok h => LamX.among_app (pos := at_) l ok h
/-- one place of the store alone bears an address -/
theorem own_one {st : Store} (nd : (keys st).Nodup) {p : Addr} {a b : Ob} (ha : (p, a) ∈ st) (hb : (p, b) ∈ st) : a = b := by
  induction st with
  | nil => cases ha
  | cons x st ih =>
    obtain ⟨n1, n2⟩ := List.nodup_cons.mp nd
    rcases List.mem_cons.mp ha with ea | ea <;> rcases List.mem_cons.mp hb with eb | eb
    · rw [← ea] at eb
      exact (Prod.mk.inj eb).2.symm
    · exact absurd (List.mem_map.mpr ⟨_, eb, by rw [← ea]⟩) n1
    · exact absurd (List.mem_map.mpr ⟨_, ea, by rw [← eb]⟩) n1
    · exact ih n2 ea eb
/-- the reading of a lambda: P its def's table -/
def dLam (P : Addr) (q : Str) (cl : List (Str × Addr)) (k : LamK) : DE := fun _ st ok _ => (∃ (j : Nat) (Δg : List Sv) (σg : List (Option V)), st[j]? = some (P, Ob.tbl q Δg σg)) ∧ ok (.dat (.lam cl k)) st
section
variable {X : Cx} {pins : List (Addr × Obj)} {σ : L2.St} {H I0 : Hp} {s : Shared}
/-- the function object laid behind what was laid -/
theorem lam_lay {k : LamK} {cl : List (Str × Addr)} {q : Str} {dV doc pm ctv : Value} {c' : Addr} {h' : Heap} {t' : Nat} (J : Inv X pins σ H { s with heap := h', toks := t' }) :
    Inv X pins σ (upd H h'.objs.size (.frz (lamO q cl k dV doc pm c' ctv) (.ext fun _ => True))) { s with heap := h'.push (lamO q cl k dV doc pm c' ctv), toks := t' } :=
  J.laid (h' := h'.push (lamO q cl k dV doc pm c' ctv)) (t' := t') (fun b u e => Heap.get?_push_of_some _ e) (Nat.le_refl _) ⟨Heap.get?_push_size _ rfl, True.intro, ⟨_, Heap.get?_push_size _ rfl⟩, fun _ _ _ _ => True.intro⟩
/-- the world behind the making: the table told anew, what is new known -/
theorem lam_tail {E : Value → Shared → Prop} {Q : VK} {st : Store} {ok : OK} {k : LamK} {cl : List (Str × Addr)} {P c : Addr} {q : Str} {dV : Value} {j line : Nat} {Δg : List Sv} {σg : List (Option V)} {pos : Pos} (J : Inv X pins σ H s) (wd : Wd X.K st I0 H)
    (hj : st[j]? = some (P, Ob.tbl q Δg σg)) (hcl : closureFor k.scope X.env = pure (cloFrom cl k.scope.names [])) (TB : LamX.TabB X.base X.mg c P) (hcode : X.env.code = .ref c) (hd : DefIs I0 k dV) (cn : Cont X.K st I0 H ok Q) (hok : ok (.dat (.lam cl k)) st) :
    wpAny (model X.prog X.w) X.A (makeTail "<lambda>" q k.params (.expr k.body) k.scope X.env dV .none none pos line) (EP X pins σ Q) E s := by
  have hm := List.mem_of_getElem? hj
  obtain ⟨ip, o, hp, io⟩ := wd.own P _ hm
  have pk : P ∈ keys st := List.mem_map.mpr ⟨_, hm, rfl⟩
  cases io with
  | @tbl _ _ _ ps ht ha hl hs =>
    have tabP : s.heap.get? P = some (PySem.W.tabObj ps) := J.hok P _ hp
    have bP : s.heap.BuiltinsAt X.mg P := TB.bm.keeps J.bk
    have glb : s.heap.Ns mainGlobals X.mg := J.mod.glob.keeps J.bk
    cases hc : codeAmong pos ps.toList with
    | none =>
      refine PySem.W.kdv_makeTail (mg := X.mg) hcl J.ok.glob glb hcode (TB.code.keeps J.bk) tabP ht hc TB.gP bP fun c' ctv doc h' tk hx hge hlt hrec htb => ?_
      obtain ⟨c2, oc, vs, t, e2, hoc, hdt, hv⟩ := hrec
      cases e2
      have nc : H c' = none := J.hok.fresh hge
      have nf : H h'.objs.size = none := J.hok.fresh (Nat.le_trans hge (Nat.le_of_lt hlt))
      have ic : I0 c' = none := wd.sub.none nc
      have if_ : I0 h'.objs.size = none := wd.sub.none nf
      have cf : h'.objs.size ≠ c' := Nat.ne_of_gt hlt
      have Pc : P ≠ c' := ne_of_none hp nc
      have Pf : P ≠ h'.objs.size := ne_of_none hp nf
      have J1 : Inv X pins σ (upd (upd H P (.tbl (ps ++ #[rawInt pos.line, rawInt pos.col, .ref c']))) c' (LamX.CodeO c' q)) { s with heap := h', toks := tk } := LamX.inv_table J hp (fun b u ne e => hx b u ne e) htb hge ⟨oc, vs, t, hoc, hdt, hv⟩
      have J2 := lam_lay (k := k) (cl := cl) (q := q) (dV := dV) (doc := doc) (pm := (X.mg "__name__").getD .none) (ctv := ctv) (c' := c') J1
      have ex1 : Ex I0 (upd I0 c' (LamX.CodeO c' q)) := fun a u e => by rw [upd_ne (ne_of_none e ic)]; exact e
      have ex2 : Ex (upd I0 c' (LamX.CodeO c' q)) (upd (upd I0 c' (LamX.CodeO c' q)) h'.objs.size (.frz (lamO q cl k dV doc ((X.mg "__name__").getD .none) c' ctv) (.ext fun _ => True))) := fun a u e => by
        by_cases z : a = h'.objs.size
        · rw [z, upd_ne cf, if_] at e
          cases e
        · rw [upd_ne z]; exact e
      refine ⟨.ref h'.objs.size, _, J2, rfl, cn _ st _ _ _ hok ⟨fun a u e => ?_, fun p ob hpo => ?_, wd.nd⟩ ⟨ex1.trans ex2, fun a u na e => ?_, fun a e => ?_, fun _ z => .inl z⟩ (.dat (.lam (c' := c') (q := q) (dV := dV) (doc := doc) (pm := (X.mg "__name__").getD .none) (ctv := ctv) upd_same (by rw [upd_ne (Ne.symm cf)]; exact upd_same) (hd.mono (ex1.trans ex2))))⟩
      · by_cases z : a = h'.objs.size
        · rw [z, upd_same] at e
          rw [z, upd_same]
          exact .inl e
        · rw [upd_ne z] at e ⊢
          by_cases z2 : a = c'
          · rw [z2, upd_same] at e
            rw [z2, upd_same]
            exact .inl e
          · rw [upd_ne z2] at e ⊢
            have z3 : a ≠ P := ne_of_none e ip
            rw [upd_ne z3]
            exact wd.sub a u e
      · obtain ⟨h1, u, h2, h3⟩ := wd.own p ob hpo
        have n1 : p ≠ h'.objs.size := ne_of_none h2 nf
        have n2 : p ≠ c' := ne_of_none h2 nc
        refine ⟨by rw [upd_ne n1, upd_ne n2]; exact h1, ?_⟩
        rw [upd_ne n1, upd_ne n2]
        by_cases z : p = P
        · subst z
          rw [upd_same]
          obtain rfl := own_one wd.nd hpo hm
          refine ⟨_, rfl, .tbl (by rw [Array.toList_append]; exact TriplesOk_snoc _ _ _ _ ht) (fun p' cv hcv => ?_) hl fun i s hi => (hs i s hi).imp id fun ⟨v, a, b⟩ => ⟨v, a, (b.mono ex1).mono ex2⟩⟩
          rw [Array.toList_append] at hcv
          rcases among_snoc ht hcv with z | z
          · obtain ⟨c0, e1, e2⟩ := ha p' cv z
            exact ⟨c0, e1, ex2 _ _ (ex1 _ _ e2)⟩
          · exact ⟨c', z, by rw [upd_ne (Ne.symm cf)]; exact upd_same⟩
        · rw [upd_ne z]
          exact ⟨u, h2, (h3.mono ex1).mono ex2⟩
      · have z3 : a ≠ P := fun z => na (z ▸ pk)
        rw [upd_ne (ne_of_none e nf), upd_ne (ne_of_none e nc), upd_ne z3]
        exact e
      · by_cases z : a = h'.objs.size
        · exact .inr (.inl (by rw [z]; exact nf))
        · rw [upd_ne z] at e
          by_cases z2 : a = c'
          · exact .inr (.inl (by rw [z2]; exact nc))
          · rw [upd_ne z2] at e
            exact .inl e
    | some cv =>
      obtain ⟨c', rfl, hco⟩ := ha pos cv hc
      refine PySem.W.kdv_makeTailHit (mg := X.mg) hcl J.ok.glob glb hcode (TB.code.keeps J.bk) tabP ht hc bP fun ctv doc h' tk hx hsz => ?_
      have nf : H h'.objs.size = none := J.hok.fresh hsz
      have if_ : I0 h'.objs.size = none := wd.sub.none nf
      have J1 : Inv X pins σ H { s with heap := h', toks := tk } := J.kept hx
      have J2 := lam_lay (k := k) (cl := cl) (q := q) (dV := dV) (doc := doc) (pm := (X.mg "__name__").getD .none) (ctv := ctv) (c' := c') J1
      have ex2 : Ex I0 (upd I0 h'.objs.size (.frz (lamO q cl k dV doc ((X.mg "__name__").getD .none) c' ctv) (.ext fun _ => True))) := fun a u e => by rw [upd_ne (ne_of_none e if_)]; exact e
      refine ⟨.ref h'.objs.size, _, J2, rfl, cn _ st _ _ _ hok ⟨fun a u e => ?_, fun p ob hpo => ?_, wd.nd⟩ ⟨ex2, fun a u na e => ?_, fun a e => ?_, fun _ z => .inl z⟩ (.dat (.lam (c' := c') (q := q) (dV := dV) (doc := doc) (pm := (X.mg "__name__").getD .none) (ctv := ctv) upd_same (ex2 _ _ hco) (hd.mono ex2)))⟩
      · by_cases z : a = h'.objs.size
        · rw [z, upd_same] at e
          rw [z, upd_same]
          exact .inl e
        · rw [upd_ne z] at e ⊢
          exact wd.sub a u e
      · obtain ⟨h1, u, h2, h3⟩ := wd.own p ob hpo
        have n1 : p ≠ h'.objs.size := ne_of_none h2 nf
        exact ⟨by rw [upd_ne n1]; exact h1, u, by rw [upd_ne n1]; exact h2, h3.mono ex2⟩
      · rw [upd_ne (ne_of_none e nf)]
        exact e
      · by_cases z : a = h'.objs.size
        · exact .inr (.inl (by rw [z]; exact nf))
        · rw [upd_ne z] at e
          exact .inl e
/-- no default, or one that is 0 -/
def LamDef (params : Arguments) : Prop := (params.defaults = [] ∨ ∃ j p, params.defaults = [.Constant (.int 0) j p]) ∧ params.kw_defaults = []
theorem dlam {W : WX} {P c : Addr} {q : Str} {cl : List (Str × Addr)} {params : Arguments} {body : Expr} {scope : Scope} {pos : Pos} (hcl : X.env.cells = cl) (TB : LamX.TabB X.base X.mg c P) (hcode : X.env.code = .ref c) (hq : X.env.qual ++ "<lambda>" = q)
    (hfree : ∀ y ∈ scope.names, y.2 = .free → X.env.scope.names.lookup y.1 = some .cell ∨ X.env.scope.names.lookup y.1 = some .free) (hdf : LamDef params) : PEd X W (.Lambda params body scope pos) (dLam P q cl ⟨params, body, scope⟩) := by
  refine ⟨fun pins s σ H Q J h => ?_⟩
  obtain ⟨Δ, st, I0, ok, ex, wd, sl, ⟨⟨j, Δg, σg, hj⟩, hok⟩, cn, cx⟩ := h
  have hclo : closureFor scope X.env = pure (cloFrom cl scope.names []) := by
    rw [← hcl]
    exact closure_ok fun y hy e => (hfree y hy e).elim (fun k => J.ok.has _ (.inl k)) fun k => J.ok.has _ (.inr k)
  obtain ⟨h0 | ⟨jj, pp, h1⟩, hkw⟩ := hdf
  · refine PySem.W.kla_eval (by rw [defaultsOf_eq, h0, hkw]; rfl) ?_
    rw [makeFunction_eq, hq]
    simp only [List.zip_nil_right, List.filterMap_nil, List.isEmpty_nil, if_true, pure_bind]
    exact lam_tail (k := ⟨params, body, scope⟩) J wd hj hclo TB hcode (.inl ⟨h0, rfl⟩) cn hok
  · refine PySem.W.kdv_lam (by rw [h1]; rfl) hkw ?_
    rw [h1, hq]
    refine PySem.W.kdv_all1 (thn ((pe_int (X := X) (i := 0)).run pins s σ H (fun v H1 => v = .int 0 ∧ H1 = H) J ⟨rfl, rfl⟩) fun u s1 ⟨v, H1, J1, r1, e1, e2⟩ => PySem.W.kdv_all0 ?_)
    subst e1
    subst e2
    rw [makeFunction_eq]
    simp only [List.zip_nil_right, List.filterMap_nil, List.isEmpty_nil, if_true, pure_bind, List.isEmpty_cons, Bool.false_eq_true, if_false]
    refine wpAny_bind (wpAny_newTextTuple ?_)
    have nT : H1 s1.heap.objs.size = none := J1.hok.fresh (Nat.le_refl _)
    have J2 := J1.laid (a := s1.heap.objs.size) (o := .tup [.int 0]) (t' := s1.toks) (h' := s1.heap.push { cls := .type "tuple", data := .seq [u].toArray }) (fun b u e => Heap.get?_push_of_some _ e) (Nat.le_refl _)
      ⟨by rw [sizeLine_eq]; decide, [u], .cons r1 .nil, ⟨_, Heap.get?_push_size _ rfl, rfl, _, rfl⟩⟩
    have iT : I0 s1.heap.objs.size = none := wd.sub.none nT
    have ex1 : Ex I0 (upd I0 s1.heap.objs.size (.tup [.int 0])) := Ex.new iT
    have st1 : Stp st I0 H1 st (upd I0 s1.heap.objs.size (.tup [.int 0])) (upd H1 s1.heap.objs.size (.tup [.int 0])) := ⟨ex1, fun a u na e => by rw [upd_ne (ne_of_none e nT)]; exact e, fun a e => by
      by_cases z : a = s1.heap.objs.size
      · exact .inr (.inl (by rw [z]; exact nT))
      · rw [upd_ne z] at e
        exact .inl e, fun _ z => .inl z⟩
    have wd1 : Wd X.K st (upd I0 s1.heap.objs.size (.tup [.int 0])) (upd H1 s1.heap.objs.size (.tup [.int 0])) := ⟨fun a u e => by
      by_cases z : a = s1.heap.objs.size
      · rw [z, upd_same] at e
        rw [z, upd_same]
        exact .inl e
      · rw [upd_ne z] at e ⊢
        exact wd.sub a u e, fun p ob hpo => by
      obtain ⟨h1, u, h2, h3⟩ := wd.own p ob hpo
      have n1 : p ≠ s1.heap.objs.size := ne_of_none h2 nT
      exact ⟨by rw [upd_ne n1]; exact h1, u, by rw [upd_ne n1]; exact h2, h3.mono ex1⟩, wd.nd⟩
    exact lam_tail (k := ⟨params, body, scope⟩) J2 wd1 hj hclo TB hcode (.inr ⟨by rw [h1]; exact List.cons_ne_nil _ _, _, rfl, upd_same⟩) (cn.go st1) hok
end
end DD
namespace DD
open PySem PySem.Spec PyProof.Rows L2
structure Cap (N : List Str) (sc : Scope) (cl : List (Str × Addr)) (σ : L2.St) (H : Hp) (h : Heap) : Prop where
  len : σ.length = N.length
  inj : ∀ x y c, cl.lookup x = some c → cl.lookup y = some c → x = y
  has : ∀ y, sc.names.lookup y = some .cell → ∃ c, cl.lookup y = some c
  cell : ∀ y c, cl.lookup y = some c → H c = none ∧ ∃ v, h.IsCell c v
  val : ∀ (i : Nat) (y : Str) (v : V) (c : Addr), N[i]? = some y → σ[i]? = some (some v) → sc.names.lookup y = some .cell → cl.lookup y = some c → ∃ u, RelV v u ∧ h.IsCell c (some u)
section
variable {N : List Str} {sc : Scope} {cl : List (Str × Addr)} {σ σ' : L2.St} {H H' : Hp} {h h' : Heap}
theorem Cap.of {X : Cx} {pins : List (Addr × Obj)} {s : Shared} (J : Inv X pins σ H s) : Cap X.N X.env.scope X.env.cells σ H s.heap := by
  refine ⟨J.len, J.ok.inj, fun y hy => J.ok.has y (.inl hy), fun y c e => ⟨J.freeC y c e, J.cell y c e⟩, fun i y v c h1 h2 h3 h4 => ?_⟩
  obtain ⟨m, _, hl⟩ := J.loc
  obtain ⟨u, r, q⟩ := hl i y v h1 h2 (.inr (.inl h3))
  refine ⟨u, r, ?_⟩
  rcases q with ⟨k, _⟩ | ⟨_, c', e, z⟩
  · have k : X.env.scope.names.lookup y = some .local := k
    rw [h3] at k
    cases k
  · rw [h4] at e
    cases e
    exact z
theorem Cap.un {fs ex : List Addr} (C : Cap N sc cl σ H h) (u : Un fs ex H H' h h') (hx : ∀ y c, cl.lookup y = some c → c ∉ ex) : Cap N sc cl σ H' h' := by
  have go : ∀ y c w, cl.lookup y = some c → h.IsCell c w → h'.IsCell c w := fun y c w e ⟨o, ho, hd⟩ => by
    obtain ⟨sl, q⟩ := u.any ho (C.cell y c e).1 (hx y c e)
    exact ⟨_, q, hd⟩
  refine ⟨C.len, C.inj, C.has, fun y c e => ?_, fun i y v c h1 h2 h3 h4 => ?_⟩
  · obtain ⟨n, w, z⟩ := C.cell y c e
    refine ⟨?_, w, go y c w e z⟩
    obtain ⟨o, ho, _⟩ := z
    exact u.free c o ho n (hx y c e)
  · obtain ⟨w, r, z⟩ := C.val i y v c h1 h2 h3 h4
    exact ⟨w, r, go y c _ h4 z⟩
theorem Cap.weak (C : Cap N sc cl σ H h) (hl : σ'.length = σ.length) (w : ∀ (i : Nat) (y : Str) (v : V), N[i]? = some y → sc.names.lookup y = some .cell → σ'[i]? = some (some v) → σ[i]? = some (some v)) : Cap N sc cl σ' H h :=
  ⟨hl.trans C.len, C.inj, C.has, C.cell, fun i y v c h1 h2 h3 h4 => C.val i y v c h1 (w i y v h1 h3 h2) h3 h4⟩
end
/-- how the parameters are bound: none, or one by its default -/
def LamBind (k : LamK) : Prop :=
  (k.params.defaults = [] ∧ ∀ (q : Str) (cl : List (Str × Addr)) (doc pm cv ctv : Value), bindArgs (PySem.W.kdv_fn "<lambda>" q k.params (.expr k.body) k.scope cl .none doc pm cv ctv) ⟨[], []⟩ = pure []) ∨
  (k.params.defaults ≠ [] ∧ ∃ a, k.scope.names.lookup a = some .local ∧ ∀ (q : Str) (cl : List (Str × Addr)) (T : Addr) (doc pm cv ctv u : Value), ∃ kk,
    bindArgs (PySem.W.kdv_fn "<lambda>" q k.params (.expr k.body) k.scope cl (.ref T) doc pm cv ctv) ⟨[], []⟩ = seqItems? (.ref T) >>= kk ∧ kk (some #[u]) = pure [(a, u)])
def lamB (N : List Str) (sc : Scope) (k : LamK) : Bool :=
  decide (k.scope.kind = .function) && (!k.scope.isCoroutine && (!k.scope.isGenerator && (k.scope.names.all (fun y => !decide (y.2 = .cell) && ((!decide (y.2 = .free) || decide (sc.names.lookup y.1 = some .cell)) && (!decide (k.scope.names.lookup y.1 = some .local) || !N.contains y.1))))))
structure LamG (N : List Str) (sc : Scope) (k : LamK) : Prop where
  kind : k.scope.kind = .function
  co : k.scope.isCoroutine = false
  gen : k.scope.isGenerator = false
  nocell : ∀ y ∈ k.scope.names, y.2 ≠ .cell
  free : ∀ y ∈ k.scope.names, y.2 = .free → sc.names.lookup y.1 = some .cell
  loc : ∀ y, k.scope.names.lookup y = some .local → y ∉ N
theorem lamG_of {N : List Str} {sc : Scope} {k : LamK} (h : lamB N sc k = true) : LamG N sc k := by
  unfold lamB at h
  simp only [Bool.and_eq_true, Bool.or_eq_true, Bool.not_eq_true', decide_eq_true_eq, decide_eq_false_iff_not, List.all_eq_true] at h
  obtain ⟨h1, h2, h3, h4⟩ := h
  refine ⟨h1, h2, h3, fun y hy => (h4 y hy).1, fun y hy e => (h4 y hy).2.1.resolve_left (fun z => z e), fun y hy => ?_⟩
  have q := (h4 _ (PySem.mem_of_lookup hy)).2.2.resolve_left (fun z => z hy)
  intro z
  have : N.contains y = true := List.contains_iff_mem.mpr z
  have q : N.contains y = false := q
  rw [q] at this
  cases this
/-- how its parameters are bound -/
theorem lam_binds {k : LamK} {cl : List (Str × Addr)} {q : Str} {dV doc pm cv ctv : Value} {s : Shared} (hs : LamBind k)
    (hd : (k.params.defaults = [] ∧ dV = .none) ∨ (k.params.defaults ≠ [] ∧ ∃ T o u n, dV = .ref T ∧ s.heap.get? T = some o ∧ o.data = .seq #[u] n)) :
    ∃ bs, BindsTo s (PySem.W.kdv_fn "<lambda>" q k.params (.expr k.body) k.scope cl dV doc pm cv ctv) ⟨[], []⟩ bs ∧ ∀ y ∈ bs, k.scope.names.lookup y.1 = some .local := by
  rcases hs with ⟨h0, hb⟩ | ⟨h1, a, ha, hb⟩
  · rcases hd with ⟨_, rfl⟩ | ⟨z, _⟩
    · exact ⟨[], .of_eq (hb _ _ _ _ _ _), fun y hy => (by cases hy)⟩
    · exact absurd h0 z
  · rcases hd with ⟨z, _⟩ | ⟨_, T, o, u, n, rfl, ho, hod⟩
    · exact absurd z h1
    · obtain ⟨kk, e1, e2⟩ := hb q cl T doc pm cv ctv u
      refine ⟨[(a, u)], .of_defaults (T := T) rfl ho hod e1 e2, fun y hy => ?_⟩
      rw [List.mem_singleton.mp hy]
      exact ha
abbrev lamE (q : Str) (cl : List (Str × Addr)) (scope : Scope) (L f c' : Addr) : Env := PySem.W.envX q scope L f (.ref c') (cloFrom cl scope.names [])
def lamC (P : Program) (w : World) (K : PySem.W.Frag) (mg : Str → Option Value) (base : Heap) (N : List Str) (q : Str) (cl : List (Str × Addr)) (A : Around) (outer : List Env) (s : Shared) (H : Hp) (E : XK) (scope : Scope) (f c' : Addr) : Cx :=
  { prog := P, w := w, K := K, mg := mg, base := base, A := A.deeper (lamE q cl scope s.heap.objs.size f c'), N := N, s_0 := s, H_0 := H, env := lamE q cl scope s.heap.objs.size f c', outer := outer, stack := lamE q cl scope s.heap.objs.size f c' :: outer, ex := [], fn := fun _ => false, calm := true, pn := [],
    xe := fun e s' => wpAny (model P w) (A.deeper (lamE q cl scope s.heap.objs.size f c')) (leaving (lamE q cl scope s.heap.objs.size f c') e) (fun _ s'' => L2.CX P w outer H s E e s'') (fun e' s'' => L2.CX P w outer H s E e' s'') s' }
section
variable {P : Program} {w : World} {K : PySem.W.Frag} {mg : Str → Option Value} {base : Heap} {N : List Str} {sc : Scope} {cl : List (Str × Addr)} {σ : L2.St} {H : Hp} {s : Shared} {A : Around} {outer : List Env} {E : XK} {q : Str} {k : LamK} {f c' : Addr}
theorem lam_cell (G : LamG N sc k) (C : Cap N sc cl σ H s.heap) {y : Str} {c : Addr} (e : (cloFrom cl k.scope.names []).lookup y = some c) : cl.lookup y = some c ∧ sc.names.lookup y = some .cell := by
  rcases cloFrom_mem (PySem.mem_of_lookup e) with z | ⟨h1, h2⟩
  · cases z
  · have hs := G.free _ h1 rfl
    obtain ⟨c1, hc⟩ := C.has y hs
    refine ⟨?_, hs⟩
    rw [h2, hc]
    rfl
theorem lam_enter {h₁ : Heap} {tk : Nat} {m : Str → Option Value} (G : LamG N sc k) (C : Cap N sc cl σ H s.heap) (e0 : Env0 P w K mg base A outer s H) (hd : A.handled = none) (hns : h₁.Ns s.heap.objs.size m) (kp : ∀ b o, s.heap.get? b = some o → h₁.get? b = some o) :
    Inv (lamC P w K mg base N q cl A outer s H E k.scope f c') [] σ H { s with heap := h₁, toks := tk } := by
  have nox : ∀ b : Addr, b ∉ (lamC P w K mg base N q cl A outer s H E k.scope f c').ex := fun b z => absurd (show b ∈ ([] : List Addr) from z) (by simp)
  have up : ∀ {c v}, s.heap.IsCell c v → h₁.IsCell c v := fun ⟨o, a, b⟩ => ⟨o, kp _ _ a, b⟩
  have there : ∀ {y}, k.scope.names.lookup y = some .free → ∃ c, (cloFrom cl k.scope.names []).lookup y = some c := fun hy => mem_lookup (cloFrom_has (cells := cl) (acc := []) (PySem.mem_of_lookup hy))
  constructor
  · constructor
    · exact e0.mod
    · exact G.kind
    · rfl
    · rfl
    · exact Nat.le_refl _
    · exact fun y z c a b => C.inj y z c (lam_cell G C a).1 (lam_cell G C b).1
    · intro y hy
      have hy : k.scope.names.lookup y = some .cell ∨ k.scope.names.lookup y = some .free := hy
      rcases hy with hy | hy
      · exact absurd rfl (G.nocell _ (PySem.mem_of_lookup hy))
      · exact there hy
    · intro y c z
      have z : false = true := z
      cases z
    · exact fun _ => hd
    · exact Around.frames_deeper e0.frames
    · exact .inr ⟨rfl, rfl⟩
    · exact fun b z => absurd z (nox b)
    · exact e0.bs
    · exact e0.bsz
    · exact fun b _ _ => nox b
    · exact fun b z => absurd z (nox b)
    · exact e0.funs
    · exact e0.frf
  · rfl
  · exact e0.bare
  · exact Un.kept kp
  · refine ⟨m, hns, fun i y v h1 h2 h3 => ?_⟩
    have h3 : Vis k.scope y := h3
    have h1 : N[i]? = some y := h1
    rcases h3 with z | z | z
    · exact absurd (List.mem_of_getElem? h1) (G.loc y z)
    · exact absurd rfl (G.nocell _ (PySem.mem_of_lookup z))
    · obtain ⟨c, hc⟩ := there z
      obtain ⟨c1, c2⟩ := lam_cell G C hc
      obtain ⟨u, r, hu⟩ := C.val i y v c h1 h2 c2 c1
      exact ⟨u, r, .inr ⟨.inr z, c, hc, up hu⟩⟩
  · intro y c e
    obtain ⟨v, z⟩ := (C.cell y c (lam_cell G C e).1).2
    exact ⟨v, up z⟩
  · exact e0.hok.fresh (Nat.le_refl _)
  · exact fun y c e => (C.cell y c (lam_cell G C e).1).1
  · exact fun p z => absurd (show p ∈ ([] : List (Addr × Obj)) ++ [] from z) (by simp)
  · exact e0.hok.kept kp
  · exact C.len
/-- the lambda called -/
theorem lam_run {dV doc pm ctv : Value} {j : Nat} {tb : TE} {Q : VK} (G : LamG N sc k) (B : LamBind k) (C : Cap N sc cl σ H s.heap) (ho : s.heap.get? f = some (lamO q cl k dV doc pm c' ctv)) (hco : ∃ (oc : Obj) (vs : Array Value) (t : Tok), s.heap.get? c' = some oc ∧ oc.data = .fields vs ∧ vs[1]? = some (.str q t))
    (hdf : (k.params.defaults = [] ∧ dV = .none) ∨ (k.params.defaults ≠ [] ∧ ∃ T o u n, dV = .ref T ∧ s.heap.get? T = some o ∧ o.data = .seq #[u] n)) (e0 : Env0 P w K mg base A outer s H) (hr : Room (j + 1) A)
    (hbody : Room j (A.deeper (lamE q cl k.scope s.heap.objs.size f c')) → PE (lamC P w K mg base N q cl A outer s H E k.scope f c') k.body tb) (ht : tb σ H Q) :
    codeAny (model P w) A (.call (.ref f) ⟨[], []⟩) (CR (L2.CX P w) outer P w H s Q E) s := by
  obtain ⟨oc, vs, t, hoc, hdc, hvc⟩ := hco
  obtain ⟨bs, hb, hloc⟩ := lam_binds (s := s) (q := q) (cl := cloFrom cl k.scope.names []) (doc := doc) (pm := pm) (cv := .ref c') (ctv := ctv) B hdf
  refine PySem.W.kla_callFunE hr.depth ho rfl G.co G.gen rfl ⟨c', oc, vs, t, rfl, hoc, hdc, hvc⟩ ?_
  refine hb _ _ _ _ (wpAny_newFunctionEnv (fun y hy => G.nocell y hy) hloc (fun h₁ hns hsb => ⟨(e0.mod.nolimit.keeps fun b o e => (e0.bs b o e).1).fresh _ hsb, ?_⟩) G.kind)
  show codeAny _ _ (.expr k.body (lamE q cl k.scope s.heap.objs.size f c')) _ _
  have kp : ∀ b o, s.heap.get? b = some o → h₁.get? b = some o := fun b o e => hsb.extBut b o (Nat.ne_of_lt (Heap.lt_size e)) (Heap.get?_push_of_some _ e)
  have J := lam_enter (tk := s.toks + bs.length) (q := q) (E := E) (f := f) (c' := c') G C e0 hr.hd hns kp
  refine PySem.W.kla_codeExpr (wpAny_mono ((hbody (hr.deeper _)).run [] _ _ H Q J ht) (fun v s' hq => ?_) fun e s' hq => hq)
  obtain ⟨x, H', J', rv, hQ⟩ := hq
  exact ⟨x, H', J'.os, J'.bare, J'.base, J'.hok, rv, hQ⟩
end
end DD
namespace DD
open PySem PySem.Spec PyProof.Rows L2
/-- the call of what was handed in: σ the maker's slots at the def's call -/
def dAct (P : Addr) (cl : List (Str × Addr)) (Λ : List (LamK × DE)) (σ : L2.St) : DE := fun Δ2 st ok ex =>
  ∃ (k : LamK) (tb : DE) (i j : Nat) (q : Str) (Δ : List Sv), Δ2[0]? = some (.dat (.lam cl k)) ∧ Λ[i]? = some (k, tb) ∧ st[j]? = some (P, Ob.tbl q Δ σ) ∧ tb Δ st ok ex
/-- each of the lambdas has its reading -/
def LamsOk (P : Program) (w : World) (K : PySem.W.Frag) (mg : Str → Option Value) (base : Heap) (N : List Str) (sc : Scope) (cl : List (Str × Addr)) (j : Nat) (Λ : List (LamK × DE)) : Prop :=
  ∀ (i : Nat) (k : LamK) (tb : DE), Λ[i]? = some (k, tb) → LamG N sc k ∧ LamBind k ∧ ∀ (q : Str) (A : Around) (outer : List Env) (s : Shared) (H : Hp) (E : XK) (f c' : Addr), Room j (A.deeper (lamE q cl k.scope s.heap.objs.size f c')) →
    Takes (lamC P w K mg base N q cl A outer s H E k.scope f c') (WF E) → PEd (lamC P w K mg base N q cl A outer s H E k.scope f c') (WF E) k.body tb
theorem act_pe {P : Program} {w : World} {K : PySem.W.Frag} {mg : Str → Option Value} {base : Heap} {N Ng : List Str} {sc sg : Scope} {cl : List (Str × Addr)} {σ0 : L2.St} {H : Hp} {s : Shared} {Λ : List (LamK × DE)} {j : Nat} {Pt g : Addr} {qg a : Str} {cdg : Value} {A : Around} {outer : List Env} {Eg : XK}
    {pn : List (Addr × Obj)} {xe : Value → Shared → Prop} {W : WX} {p1 p2 : Pos} (C : Cap N sc cl σ0 H s.heap) (L : LamsOk P w K mg base N sc cl j Λ) (hr : Room (j + 1) (A.deeper (envOfC qg sg s.heap.objs.size g cdg)))
    (tk : Takes ((cxD P w K mg base Ng qg sg g cdg A outer s H Eg).tr pn xe) W) (hN : Ng[0]? = some a) (hv : Vis sg a) (hd : (a == ("__debug__" : Str)) = false) (hcd : (a == ("__classdict__" : Str)) = false) :
    PEd ((cxD P w K mg base Ng qg sg g cdg A outer s H Eg).tr pn xe) W (.Call (.Name a p1) [] [] p2) (dAct Pt cl Λ σ0) := by
  refine ⟨fun pinsZ sZ σZ HZ Q JZ h => ?_⟩
  obtain ⟨Δ2, st, I, ok, ex, wd, sl, ⟨k, tb, i, jj, q', Δ, h0, hΛ, hst, hb⟩, cn, cx⟩ := h
  obtain ⟨G, B, hbody⟩ := L i k tb hΛ
  rcases sl.2 0 _ h0 with z | ⟨v0, hs0, iv⟩
  · cases z
  cases iv with
  | dat hd0 =>
  cases hd0 with
  | @lam _ _ f c' q dV doc pm ctv hf hc hdv =>
  refine wpAny_Call_Name_kw (thn ((pe_var (pos := p1) (i := 0) hN hv hd hcd).run pinsZ sZ σZ HZ (fun v H1 => v = .ref f ∧ H1 = HZ) JZ ⟨.ref f, hs0, rfl, rfl⟩) fun u s1 ⟨v, H1, J1, r1, e1, e2⟩ => ?_)
  subst e1
  subst e2
  obtain rfl : u = Value.ref f := r1
  have hfH := wd.sub.at hf (by intro k z; cases z) (by intro k z; cases z)
  have hcH : H1 c' = some (LamX.CodeO c' q) := wd.sub.at hc (by intro k z; unfold LamX.CodeO at z; cases z) (by intro k z; unfold LamX.CodeO at z; cases z)
  have of1 : s1.heap.get? f = some (lamO q cl k dV doc pm c' ctv) := (J1.hok f _ hfH).1
  obtain ⟨⟨oc, vs, t, hoc, hdc, hvc⟩, _, _⟩ := J1.hok c' _ hcH
  refine PySem.W.callWith_F0 ⟨_, _, _, _, of1⟩ ?_
  have Cs : Cap N sc cl σ0 H1 s1.heap := Cap.un C J1.base (fun _ _ _ z => nomatch (show _ ∈ ([] : List Addr) from z))
  have slD : Sl K Δ I σ0 := by
    obtain ⟨_, o, _, io⟩ := wd.own Pt _ (List.mem_of_getElem? hst)
    cases io with
    | tbl _ _ h1 h2 => exact ⟨h1, h2⟩
  have dfl : (k.params.defaults = [] ∧ dV = .none) ∨ (k.params.defaults ≠ [] ∧ ∃ T o u n, dV = .ref T ∧ s1.heap.get? T = some o ∧ o.data = .seq #[u] n) := by
    refine hdv.imp id fun ⟨z, T, e1, e2⟩ => ⟨z, T, ?_⟩
    obtain ⟨_, its, ri, o, ho, _, n, hn⟩ := J1.hok T _ (wd.sub.at e2 (by intro k z; cases z) (by intro k z; cases z))
    cases ri with
    | cons r t =>
      cases t
      exact ⟨o, _, n, e1, ho, hn⟩
  have rc := lam_run (E := fun cls d H' => W cls d σZ H') (tb := low K tb (WF fun cls d H' => W cls d σZ H')) (Q := Q) G B Cs of1 ⟨oc, vs, t, hoc, hdc, hvc⟩ dfl J1.env0 hr
    (fun hr2 => hbody q _ _ s1 H1 _ f c' hr2 (takes_of rfl rfl rfl rfl)) ⟨Δ, st, I, ok, ex, wd, slD, hb, cn, cx⟩
  refine wpAny_call (codeAny_mono rc fun r s' hq => ?_)
  cases r with
  | error e => exact tk e s' (XE.of_call J1 (fun cls d H' z => z) hq)
  | ok fl =>
    cases fl with
    | ret u => exact J1.after hq
    | next => exact False.elim hq
    | brk => exact False.elim hq
    | cont => exact False.elim hq
/-- the table's ghost told anew -/
theorem wd_ghost {K : PySem.W.Frag} {st : Store} {I H : Hp} {j : Nat} {P : Addr} {q : Str} {Δ Δg : List Sv} {σg : List (Option V)} {σ : L2.St} (w : Wd K st I H) (hj : st[j]? = some (P, Ob.tbl q Δg σg)) (sl : Sl K Δ I σ) : Wd K (st.set j (P, Ob.tbl q Δ σ)) I H ∧ Stp st I H (st.set j (P, Ob.tbl q Δ σ)) I H := by
  have hl : j < st.length := (List.getElem?_eq_some_iff.mp hj).1
  have ek : keys (st.set j (P, Ob.tbl q Δ σ)) = keys st := by
    refine List.ext_getElem? fun i => ?_
    rw [List.getElem?_map, List.getElem?_map]
    by_cases e : j = i
    · subst e
      rw [List.getElem?_set_self hl, hj]
      rfl
    · rw [List.getElem?_set_ne e]
  refine ⟨⟨w.sub, fun p ob hp => ?_, by rw [ek]; exact w.nd⟩, ⟨Ex.refl _, fun _ _ _ e => e, fun _ e => .inl e, fun p hp => .inl (ek ▸ hp)⟩⟩
  rcases List.mem_or_eq_of_mem_set hp with z | z
  · exact w.own p ob z
  · cases z
    obtain ⟨h1, o, h2, h3⟩ := w.own P _ (List.mem_of_getElem? hj)
    cases h3 with
    | tbl a b _ _ => exact ⟨h1, _, h2, .tbl a b sl.1 sl.2⟩
end DD
namespace DD
open PySem PySem.Spec PyProof.Rows L2
end DD
namespace DD
open PySem PySem.Spec PyProof.Rows L2
def dIsE (K : PySem.W.Frag) (a : Addr) (cls : Value) (d : Option Addr) (C : Addr) (i : Nat) : DE := fun Δ st ok _ =>
  ∃ (D : Addr) (fs : List (Str × Dt)), Δ[i]? = some (.dat (.exc a d D fs)) ∧ cls = .ref D ∧ d = none ∧ ExcC K D ∧ ∃ b, PySem.W.kitOne K (.ref D) (.ref C) = some b ∧ ok (.dat (.bl b)) st
theorem dise {X : Cx} {a C : Addr} {oe : Obj} {cls : Value} {d : Option Addr} {pn : List (Addr × Obj)} (K : PySem.W.Frag) (i : Nat) {x y : Str} {p p1 p2 pos : Pos} (hm : X.mg "isinstance" = none) (hx : X.mg x = some (.ref C)) (hz : Zc cls d oe) (hf : ∃ vs, oe.data = .fields vs)
    (hN : X.N[i]? = some y := by rfl) (hv : Vis X.env.scope y := by first | exact Or.inl rfl | exact Or.inr (Or.inl rfl) | exact Or.inr (Or.inr rfl)) (hg : Gl X "isinstance" := by rfl) (hgx : Gl X x := by rfl)
    (d1 : (x == ("__debug__" : Str)) = false := by decide) (d2 : (y == ("__debug__" : Str)) = false := by decide) (d3 : (y == ("__classdict__" : Str)) = false := by decide)
    (h1 : starEach [.Name y p1, .Name x p2] (X.suite a ((a, oe) :: pn)).env = (false, eval (.Name y p1) (X.suite a ((a, oe) :: pn)).env) :: starEach [.Name x p2] (X.suite a ((a, oe) :: pn)).env := by rfl)
    (hpl : (backTo pos (starEach [.Name x p2] (X.suite a ((a, oe) :: pn)).env)).any (·.1) = false := by rfl) (hK : X.K = K := by rfl) :
    PEd (X.suite a ((a, oe) :: pn)) W0 (.Call (.Name "isinstance" p) [.Name y p1, .Name x p2] [] pos) (dIsE K a cls d C i) := by
  subst hK
  refine ⟨fun pins s σ H Q J h => ?_⟩
  obtain ⟨Δ, st, I, ok, ex, wd, sl, ⟨D, fs, hi, ec, ed, hC, b, hk, hok⟩, cn, cx⟩ := h
  subst ec
  subst ed
  rcases sl.2 i _ hi with z | ⟨v, hs, iv⟩
  · cases z
  cases iv with
  | dat hd0 =>
  have ev : v = .ref a := by
    cases hd0 <;> rfl
  subst ev
  refine (pe_callB (X := X.suite a ((a, oe) :: pn)) (call_isE hC hz hf) hg hm PyProof.Rows.boot_isinstance (pa_cons (pe_var (i := i) (pos := p1) hN hv d2 d3) (pa_cons (pe_glob (v := .ref C) hgx hx rfl d1) pa_nil) h1) (he := h1) (hpl := hpl)).run pins s σ H Q J ?_
  refine ⟨.ref a, hs, ?_⟩
  exact ⟨.ref C, .ref C, b, rfl, fun u r => r, hk, cn.now wd hok (.dat (.bl b))⟩
theorem lams_nil {P : Program} {w : World} {K : PySem.W.Frag} {mg : Str → Option Value} {base : Heap} {N : List Str} {sc : Scope} {cl : List (Str × Addr)} {j : Nat} : LamsOk P w K mg base N sc cl j [] := fun i k tb h => by
  cases i <;> cases h
theorem lams_cons {P : Program} {w : World} {K : PySem.W.Frag} {mg : Str → Option Value} {base : Heap} {N : List Str} {sc : Scope} {cl : List (Str × Addr)} {j : Nat} {k : LamK} {tb : DE} {Λ : List (LamK × DE)} (G : lamB N sc k = true) (B : LamBind k)
    (h : ∀ (q : Str) (A : Around) (outer : List Env) (s : Shared) (H : Hp) (E : XK) (f c' : Addr), Room j (A.deeper (lamE q cl k.scope s.heap.objs.size f c')) →
      Takes (lamC P w K mg base N q cl A outer s H E k.scope f c') (WF E) → PEd (lamC P w K mg base N q cl A outer s H E k.scope f c') (WF E) k.body tb) (t : LamsOk P w K mg base N sc cl j Λ) : LamsOk P w K mg base N sc cl j ((k, tb) :: Λ) := fun i k' tb' e => by
  cases i with
  | zero =>
    cases e
    exact ⟨lamG_of G, B, h⟩
  | succ i => exact t i k' tb' e
end DD
namespace DD
open PySem PySem.Spec PyProof.Rows L2
theorem cx_none {P : Program} {w : World} {H : Hp} {s : Shared} {e : Value} {s' : Shared} (h : L2.CX P w [] H s (fun _ _ _ => False) e s') : False := by
  obtain ⟨_, _, _, _, _, _, _, _, _, _, _, _, z⟩ := h
  exact z
end DD
namespace DD
open PySem PySem.Spec PyProof.Rows L2
section
variable {K : PySem.W.Frag} {C D : Addr} {f : Str}
theorem na_of (h : PySem.W.findIn K (.ref C) f = some none) : NoAttr K C f := h
theorem kit_same : PySem.W.kitOne K (.ref C) (.ref C) = some true := by
  unfold PySem.W.kitOne
  rw [if_pos (by exact beq_self_eq_true _)]
theorem kit_ne {t c : Value} (h : (t == c) = false) : PySem.W.kitOne K t c = PySem.W.kitCls K t c := by
  unfold PySem.W.kitOne
  rw [h]
  rfl
theorem kit_cr {t : Value} {x : ClassData} {b : Bool} (ne : (t == Value.ref C) = false) (c : PySem.W.clsIn K C = some x) (ty : PySem.W.typeIn K (.ref C) = some (.type "type")) (s : PySem.W.subIn K t (.ref C) = some b) : PySem.W.kitOne K t (.ref C) = some b := by
  rw [kit_ne ne]
  unfold PySem.W.kitCls
  dsimp only
  rw [c, ty, if_pos (by rfl), s]
theorem kit_ct {T : String} {b : Bool} (m : PySem.W.kitMeta T = true) (s : PySem.W.subIn K (.ref C) (.type T) = some b) : PySem.W.kitOne K (.ref C) (.type T) = some b := by
  rw [kit_ne (by rfl)]
  unfold PySem.W.kitCls
  dsimp only
  rw [if_pos m, s]
theorem exm_of {cls : Value} {b : Bool} (h1 : PySem.W.subIn K (.ref C) (.type "BaseException") = some true) (hd : PySem.W.hasDictIn K C = true) (ty : PySem.W.typeIn K (.ref C) = some (.type "type")) (s : PySem.W.subIn K cls (.ref C) = some b) : PySem.W.exmOne K cls (.ref C) = some b := PySem.W.exm_ref h1 hd ty s
theorem nec_of {fa : Addr} {nm q : Str} {N : Addr} {bs : List Value} {hdct : Bool} {sn sub ab col dd k0 k1 k2 k3 k5} {newId : String} {o : Obj}
    (l : K.lookup C = some (excClassObj nm q C N bs [.type "object"] hdct sn sub ab col dd k0 k1 k2 k3 k5 newId)) (n : PySem.W.nsOkIn K N = true) (e : PySem.W.nsIn K N "__eq__" = some (some (.ref fa))) (ne : PySem.W.nsIn K N "__ne__" = some none) (lf : K.lookup fa = some o) (c : o.cls = .type "function") : NeC K C fa :=
  ⟨⟨_, _, _, _, _, _, _, _, _, _, _, _, _, _, _, _, l, n, e, ne⟩, ⟨_, lf, c⟩⟩
theorem fund_mk {x qual : Str} {params : Arguments} {body : List Stmt} {scope : Scope} {dvs : List V} {oc : Value} {od an : Option Addr} {kV doc pm cdv ct oc' : Value} {od' : Option Addr} {T : Addr} {n : Nat} {osl osl' : Array (Option Value)} {its : List Value} {fa : Addr}
    (l : K.lookup fa = some ⟨oc, od, .func (PySem.W.fnOf x qual params body scope (.ref T) kV doc pm an cdv ct), osl⟩) (c : PySem.W.codeIn K cdv qual = true) (lt : K.lookup T = some ⟨oc', od', .seq its.toArray n, osl'⟩) (k : PySem.W.keepIn K (.ref fa) = true) (ne : dvs ≠ []) (v : Vals dvs its) :
    FunD K x qual params body scope dvs [] fa (PySem.W.fnOf x qual params body scope (.ref T) kV doc pm an cdv ct) := ⟨⟨oc, od, _, kV, doc, pm, an, cdv, ct, osl, rfl, l, c, .inr ⟨ne, T, _, its, n, rfl, lt, rfl, v⟩, .inl rfl⟩, k⟩
theorem oex_of {nm q : Str} {N : Addr} {bs bm : List Value} {sn sub ab col dd k0 k1 k2 k3 k5} (l : K.lookup C = some (excClassObj nm q C N bs bm true sn sub ab col dd k0 k1 k2 k3 k5 "ValueError.__new__")) (r : PySem.HandSPX.refsVE bm = true)
    (sa : PySem.W.findIn K (.ref C) "__setattr__" = some (some (.builtin "object.__setattr__"))) (e : PySem.W.subIn K (.ref C) (.type "BaseException") = some true) (t : PySem.W.typeIn K (.ref C) = some (.type "type")) (k : PySem.W.keepIn K (.ref C) = true) : OexC K C :=
  ⟨⟨_, _, _, _, _, _, _, _, _, _, _, _, _, _, _, l, r⟩, sa, e, t, k⟩
end
end DD
namespace DD
open PySem PySem.Spec PyProof.Rows L2
abbrev qLam (x : Str) : Str := (x ++ ".<locals>.") ++ "<lambda>"
section
variable {P : Program} {w : World} {K : PySem.W.Frag} {mg : Str → Option Value} {base : Heap}
theorem fn_lowL {x qual : Str} {st : Stmt} {f c : Addr} {fd : FuncData} {N ps : List Str} {k : Nat} {ct : Ct} (t : List (Str × Addr) → DS) (F : Fun K x qual st f fd) (hfc : fd.code = .ref c) (S : FnScope N ps (defScope st)) (len : ∀ ss st ok ex, ct ss st ok ex → ss.length = ps.length)
    (hsem : ∀ cl ss st ok ex, ct ss st ok ex → t cl (ss ++ List.replicate (N.length - ss.length) .un) st (endsOf ok ex))
    (hbody : ∀ (A : Around) (outer : List Env) (s : Shared) (H : Hp) (E : XK) (cl : List (Str × Addr)), Room k (A.deeper (envOfC qual (defScope st) s.heap.objs.size f (.ref c))) → Takes (cxD P w K mg base N qual (defScope st) f (.ref c) A outer s H E) (WF E) →
      PassesOwn (model P w) (cxD P w K mg base N qual (defScope st) f (.ref c) A outer s H E).A (cxD P w K mg base N qual (defScope st) f (.ref c) A outer s H E).env (cxD P w K mg base N qual (defScope st) f (.ref c) A outer s H E).xe →
      (cxD P w K mg base N qual (defScope st) f (.ref c) A outer s H E).env.cells = cl → PBd (cxD P w K mg base N qual (defScope st) f (.ref c) A outer s H E) (WF E) (defBody st) (t cl)) :
    FnOk P w K mg base (L2.CX P w) (k + 1) f fd ps (lowF K ct) := by
  obtain ⟨oc, od, kV, doc, pm, an, cdv, cv, osl, rfl, lk, hcd⟩ := F.ex
  have ec : cdv = .ref c := hfc
  subst ec
  refine fn_of lk hcd S (fun vs H Q E h => ?_) fun A outer s H vs Q E hr h => ?_
  · obtain ⟨ss, st, I, ok, ex, wd, iv, h, _⟩ := h
    rw [← paired_len iv]
    exact len _ _ _ _ h
  · obtain ⟨ss, st0, I, ok, ex, wd, iv, h, cn, cx⟩ := h
    refine ⟨_, hbody A outer s H E _ hr (takes_of rfl rfl rfl rfl) (passes_of rfl) rfl, ?_⟩
    refine lowS_go wd (sl_start iv) (hsem _ _ _ _ _ h) ⟨?_, ?_, ?_, ?_, ?_⟩
    · rintro Δ st' σ' I' H' ⟨st'', hs, h'⟩ w' s' l'
      exact cn _ _ _ _ _ h' (wd_drop w' hs) (stp_drop s' hs) (.dat .non)
    · rintro s st' v I' H' ⟨s', st'', hf, h'⟩ w' sp i'
      obtain ⟨I2, w2, s2, i2⟩ := fin_ok w' sp i' hf
      exact cn _ _ _ _ _ h' w2 s2 i2
    · intro _ _ _ _ _ h'
      exact h'.elim
    · intro _ _ _ _ _ h'
      exact h'.elim
    · rintro x Δ' st' cls d σ' I' H' ⟨st'', hs, h'⟩ w' sp l' xi
      exact cx x st'' cls d I' H' h' (wd_drop w' hs) (stp_drop sp hs) xi
end
theorem law_inT {K : PySem.W.Frag} {ct : Ct} {H : Hp} {a T : Addr} {q : Str} {ns : List Int} (hS : SqL K H a (ns.map V.int)) (hT : H T = some (.tbl #[])) (c : ct [.dat (.fls (ns.map Dt.int))] [(T, Ob.tbl q [] [])] (fun s _ => s = .dat (.bl true)) (fun _ _ => False)) :
    lowF K ct [.ref a] H (fun v _ => v = .bl true) fun _ _ _ => False := by
  have hd : ∀ (I : Hp) (ns : List Int), IsDs K I (ns.map Dt.int) (ns.map V.int) := fun I ns => by
    induction ns with
    | nil => exact .nil
    | cons n ns ih => exact .cons (.int n) ih
  obtain ⟨I, hI⟩ : ∃ I : Hp, I = fun b => if b = T then none else H b := ⟨_, rfl⟩
  have i1 : I T = none := by
    rw [hI]
    exact if_pos rfl
  have i2 : ∀ b, b ≠ T → I b = H b := fun b z => by
    rw [hI]
    exact if_neg z
  have hS2 : SqL K I a (ns.map V.int) := by
    refine hS.imp (fun r => ?_) id
    have nT : a ≠ T := fun z => by
      rw [z] at r
      rcases r with r | ⟨o, r⟩ <;> rw [hT] at r <;> cases r
    exact r.imp (fun e => (i2 a nT).trans e) fun ⟨o, e⟩ => ⟨o, (i2 a nT).trans e⟩
  refine ⟨_, [(T, Ob.tbl q [] [])], I, _, _, ⟨fun b o h => ?_, fun p ob h => ?_, ?_⟩, .cons (.dat (.fls hS2 (hd I ns))) .nil, c, ?_, ?_⟩
  · by_cases z : b = T
    · rw [z, i1] at h
      cases h
    · exact .inl ((i2 b z).symm.trans h)
  · rw [List.mem_singleton] at h
    cases h
    refine ⟨i1, _, hT, .tbl True.intro (fun p cv hc => ?_) rfl fun i s hs => ?_⟩
    · have hc : codeAmong p [] = some cv := hc
      simp [codeAmong] at hc
    · cases i <;> cases hs
  · exact List.nodup_cons.mpr ⟨List.not_mem_nil, List.nodup_nil⟩
  · intro s st' v I' H' h w' s' i'
    subst h
    cases i' with
    | dat z => cases z; rfl
  · intro x st' cls d I' H' h
    exact h.elim
theorem law_at {l : PySem.W.OpenLaw} {w : World} {K : PySem.W.Frag} {mg : Str → Option Value} {fa c T : Addr} {h : Heap} {k : Nat} {x q : Str} {ct : Ct} (nT : K.lookup T = none) (hT : h.get? T = some { cls := .none, data := .fields #[] }) (hc : PySem.W.CodeHd h c T)
    (e : ∃ fd : FuncData, (∀ (s : Shared) (u : Value), BindsTo s fd ⟨[u], []⟩ [(x, u)]) ∧ ∀ base : Heap, K.In base → base.Ns mainGlobals mg → LamX.TabB base mg c T → FnOk l.prog w K mg base (L2.CX l.prog w) k fa fd [x] (lowF K ct))
    (hct : ∀ ns : List Int, ns.length ≤ 63 → ct [.dat (.fls (ns.map Dt.int))] [(T, Ob.tbl q [] [])] (fun s _ => s = .dat (.bl true)) (fun _ _ => False)) : LamX.LawAtS l w K (L2.CX l.prog w) k 63 x mg fa h := by
  obtain ⟨fd, hb, hF⟩ := e
  refine ⟨fd, [(c, T)], lowF K ct, fun p hp => ?_, fun p hp => ?_, fun p hp => ?_, hb, fun H a ns hl _ hH hS => law_inT hS (hH (c, T) List.mem_cons_self) (hct ns hl), fun base X G hp => hF base X G (hp (c, T) List.mem_cons_self)⟩ <;> rw [List.mem_singleton.mp hp]
  · exact hT
  · exact nT
  · exact hc
end DD
namespace DD
open PySem PySem.Spec PyProof.Rows L2
namespace LP
def nth (b : List Stmt) (i : Nat) : Stmt := b.getD i (.Pass ⟨0, 0, 0, 0⟩)
def body : Stmt → List Stmt
  | .For (body := b) .. => b
  | .While (body := b) .. => b
  | .If (body := b) .. => b
  | _ => []
def val : Stmt → Expr
  | .Assign (value := e) .. => e
  | .Expr (value := e) .. => e
  | .Return (value := some e) .. => e
  | _ => .Constant .none 0 ⟨0, 0, 0, 0⟩
def bl : Expr → Expr
  | .BinOp (left := e) .. => e
  | e => e
def arg : Expr → Nat → Expr
  | .Call (args := es) .., i => es.getD i (.Constant .none 0 ⟨0, 0, 0, 0⟩)
  | e, _ => e
def lam : Expr → LamK
  | .Lambda p b s _ => ⟨p, b, s⟩
  | e => ⟨⟨[], [], none, [], [], none, []⟩, e, ⟨.function, [], false, false, []⟩⟩
end LP
def ctLawT (T : Addr) : Ct := fun ss st ok _ => ∃ ns : List Int, ss = [.dat (.fls (ns.map Dt.int))] ∧ ns.length ≤ 63 ∧ st = [(T, Ob.tbl (qLam "law") [] [])] ∧ ok (.dat (.bl true)) []
end DD
namespace DD
open PySem PySem.Spec PyProof.Rows L2
end DD
namespace DD
open PySem PySem.Spec PyProof.Rows L2
def gCatO : G2 := fun x y st ok => withX x st fun xs => withX y st fun ys => xs.length + ys.length ≤ sizeLine ∧ ∀ p, p ∉ keys st → ok (.own p) ((p, .lst (xs ++ ys)) :: st)
theorem lr_catO {K : PySem.W.Frag} : LR2 K rCat gCatO := by
  intro x y st I H ok Q v w wd ix iy h c
  obtain ⟨a, vs, xs, rfl, hs, hx, h⟩ := withX_rd wd ix h
  obtain ⟨b, us, ys, rfl, ht, hy, hl, h⟩ := withX_rd wd iy h
  refine ⟨a, b, vs, us, rfl, rfl, hs, ht, by rw [← paired_len hx, ← paired_len hy]; exact hl, fun p hp => ?_⟩
  obtain ⟨np, w2, s2⟩ := new_own (o := .lst (vs ++ us)) (ob := .lst (xs ++ ys)) wd hp (.lst (paired_app hx hy))
  exact c _ _ _ _ _ (h p np) w2 s2 (.own p)
end DD
namespace DD
open PySem PySem.Spec PyProof.Rows L2
end DD
namespace DD
open PySem PySem.Spec PyProof.Rows L2
theorem isi_just {x D : Addr} {ox : Obj} (hc : ox.cls = .ref D) : PySem.Answers (fun s => s.heap.get? x = some ox) (.ref x) (.ref D) true := by
  intro dep tk prog w A R s hs
  obtain ⟨hget, hq⟩ := hs
  have LT : PySem.W.Looks (model prog w) s.heap (typeOf (.ref x)) (.ref D) := fun A Q E s' k q => wpAny_typeOf_ref (k _ _ hget) (by rw [hc]; exact q)
  unfold Builtin.«isinstance.nested»
  refine wpAny_bind (LT.at ?_)
  rw [if_pos (beq_self_eq_true _)]
  first
    | exact wpAny_bind (wpAny_rule (hq s.toks))
    | exact wpAny_bind (wpAny_rule (wpAny_pure (hq s.toks)))
theorem kia_just {prog : Program} {w : World} {A : Around} {E : Value → Shared → Prop} {s : Shared} {Q : Value → Shared → Prop} {x D : Addr} {ox : Obj} (hg : s.heap.get? x = some ox) (hc : ox.cls = .ref D) (h : ∀ tk, Q (.bool true) { s with toks := tk }) :
    wpAny (model prog w) A (call (.builtin "isinstance") [.ref x, .ref D]) Q E s :=
  PySem.call_isinstance (S := fun _ R s => s.heap.get? x = some ox ∧ ∀ tk, R (.ok (.ret (.bool true))) { s with toks := tk })
    (fun prog w A R s hs => PySem.isinstance_outer (isi_just hc 0 _ prog w A R s hs) (fun z => nomatch z)) ⟨hg, h⟩
theorem call_isJ {X : Cx} {a D : Addr} {oe : Obj} {d : Option Addr} {pn : List (Addr × Obj)} (hz : Zc (.ref D) d oe) : CallR (X.suite a ((a, oe) :: pn)) (.builtin "isinstance") (fun xs H Q => ∃ c : V, xs = [.ref a, c] ∧ (∀ u, RelV c u → u = .ref D) ∧ Q (.bl true) H) := by
  intro pins s σ H xs us Q I r h
  obtain ⟨c, rfl, hcv, q⟩ := h
  cases r with
  | cons rx rr =>
    cases rr with
    | cons rt rr =>
      cases rr
      cases rx
      have ec := hcv _ rt
      subst ec
      obtain ⟨hget, _⟩ := I.pin (a, oe) (List.mem_append.mpr (.inl List.mem_cons_self))
      exact kia_just hget hz.1 fun tk => ⟨.bl true, H, I.kept (t' := tk) fun _ _ z => z, rfl, q⟩
def dIsE2 (K : PySem.W.Frag) (a : Addr) (cls : Value) (d : Option Addr) (C : Addr) (i : Nat) : DE := fun Δ st ok _ =>
  ∃ (D : Addr) (fs : List (Str × Dt)) (b : Bool), Δ[i]? = some (.dat (.exc a d D fs)) ∧ cls = .ref D ∧ ((d = none ∧ ExcC K D ∧ PySem.W.kitOne K (.ref D) (.ref C) = some b) ∨ (D = C ∧ b = true)) ∧ ok (.dat (.bl b)) st
theorem dise2 {X : Cx} {a C : Addr} {oe : Obj} {cls : Value} {d : Option Addr} {pn : List (Addr × Obj)} (K : PySem.W.Frag) (i : Nat) {x y : Str} {p p1 p2 pos : Pos} (hm : X.mg "isinstance" = none) (hx : X.mg x = some (.ref C)) (hz : Zc cls d oe) (hf : ∃ vs, oe.data = .fields vs)
    (hN : X.N[i]? = some y := by rfl) (hv : Vis X.env.scope y := by first | exact Or.inl rfl | exact Or.inr (Or.inl rfl) | exact Or.inr (Or.inr rfl)) (hg : Gl X "isinstance" := by rfl) (hgx : Gl X x := by rfl)
    (d1 : (x == ("__debug__" : Str)) = false := by decide) (d2 : (y == ("__debug__" : Str)) = false := by decide) (d3 : (y == ("__classdict__" : Str)) = false := by decide)
    (h1 : starEach [.Name y p1, .Name x p2] (X.suite a ((a, oe) :: pn)).env = (false, eval (.Name y p1) (X.suite a ((a, oe) :: pn)).env) :: starEach [.Name x p2] (X.suite a ((a, oe) :: pn)).env := by rfl)
    (hpl : (backTo pos (starEach [.Name x p2] (X.suite a ((a, oe) :: pn)).env)).any (·.1) = false := by rfl) (hK : X.K = K := by rfl) :
    PEd (X.suite a ((a, oe) :: pn)) W0 (.Call (.Name "isinstance" p) [.Name y p1, .Name x p2] [] pos) (dIsE2 K a cls d C i) := by
  subst hK
  refine ⟨fun pins s σ H Q J h => ?_⟩
  obtain ⟨Δ, st, I, ok, ex, wd, sl, ⟨D, fs, b, hi, ec, how, hok⟩, cn, cx⟩ := h
  subst ec
  rcases sl.2 i _ hi with z | ⟨v, hs, iv⟩
  · cases z
  cases iv with
  | dat hd0 =>
  have ev : v = .ref a := by
    cases hd0 <;> rfl
  subst ev
  rcases how with ⟨ed, hC, hk⟩ | ⟨eD, eb⟩
  · subst ed
    refine (pe_callB (X := X.suite a ((a, oe) :: pn)) (call_isE hC hz hf) hg hm PyProof.Rows.boot_isinstance (pa_cons (pe_var (i := i) (pos := p1) hN hv d2 d3) (pa_cons (pe_glob (v := .ref C) hgx hx rfl d1) pa_nil) h1) (he := h1) (hpl := hpl)).run pins s σ H Q J ?_
    exact ⟨.ref a, hs, .ref C, .ref C, b, rfl, fun u r => r, hk, cn.now wd hok (.dat (.bl b))⟩
  · subst eD
    subst eb
    refine (pe_callB (X := X.suite a ((a, oe) :: pn)) (call_isJ hz) hg hm PyProof.Rows.boot_isinstance (pa_cons (pe_var (i := i) (pos := p1) hN hv d2 d3) (pa_cons (pe_glob (v := .ref D) hgx hx rfl d1) pa_nil) h1) (he := h1) (hpl := hpl)).run pins s σ H Q J ?_
    exact ⟨.ref a, hs, .ref D, rfl, fun u r => r, cn.now wd hok (.dat (.bl true))⟩
def dFailE (P : Addr) (cl : List (Str × Addr)) (Λ : List (LamK × DE)) (tF : DE → DS) (n : Nat) (te : DE) : DE := fun Δ st ok ex => te Δ st (fun d st1 =>
  ∃ (j : Nat) (q : Str) (Δg : List Sv) (σg : List (Option V)), st1[j]? = some (P, Ob.tbl q Δg σg) ∧ ∀ σ : L2.St, tF (dAct P cl Λ σ) (d :: List.replicate (n - 1) .un) (st1.set j (P, Ob.tbl q Δ σ)) (endsOf ok ex)) ex
theorem lamcallE {Y : Cx} {W : WX} {cl : List (Str × Addr)} {P g : Addr} {Λ : List (LamK × DE)} {jr : Nat} {x a : Str} {e : Expr} {te : DE} {fd : FuncData} {st0 : Stmt} {Ng : List Str} {tF : DE → DS} {p pos : Pos} (hcl : Y.env.cells = cl)
    (Fg : Fun Y.K x x st0 g fd) (Sg : FnScope Ng [a] (defScope st0)) (hm : Y.mg x = some (.ref g)) (hb : Binds Y.K fd [a] []) (hr : Room (jr + 2) Y.A) (tk : Takes Y W) (L : LamsOk Y.prog Y.w Y.K Y.mg Y.base Y.N Y.env.scope cl jr Λ) (he' : PEd Y W e te)
    (hF : ∀ (cdv : Value) (A : Around) (outer : List Env) (s : Shared) (H : Hp) (E : XK) (act : DE), Room (jr + 1) (A.deeper (envOfC x (defScope st0) s.heap.objs.size g cdv)) → Takes (cxD Y.prog Y.w Y.K Y.mg Y.base Ng x (defScope st0) g cdv A outer s H E) (WF E) →
      PassesOwn (model Y.prog Y.w) (cxD Y.prog Y.w Y.K Y.mg Y.base Ng x (defScope st0) g cdv A outer s H E).A (cxD Y.prog Y.w Y.K Y.mg Y.base Ng x (defScope st0) g cdv A outer s H E).env (cxD Y.prog Y.w Y.K Y.mg Y.base Ng x (defScope st0) g cdv A outer s H E).xe →
      (∀ (V : WX) (pn : List (Addr × Obj)) (xe : Value → Shared → Prop) (p1 p2 : Pos), Takes ((cxD Y.prog Y.w Y.K Y.mg Y.base Ng x (defScope st0) g cdv A outer s H E).tr pn xe) V → PEd ((cxD Y.prog Y.w Y.K Y.mg Y.base Ng x (defScope st0) g cdv A outer s H E).tr pn xe) V (.Call (.Name a p1) [] [] p2) act) →
      PBd (cxD Y.prog Y.w Y.K Y.mg Y.base Ng x (defScope st0) g cdv A outer s H E) (WF E) (defBody st0) (tF act))
    (hN0 : Ng[0]? = some a := by rfl) (hva : Vis (defScope st0) a := by first | exact Or.inl rfl | exact Or.inr (Or.inl rfl)) (hg : Gl Y x := by rfl)
    (d1 : (x == ("__debug__" : Str)) = false := by decide) (d2 : (a == ("__debug__" : Str)) = false := by decide) (d3 : (a == ("__classdict__" : Str)) = false := by decide)
    (he : starEach [e] Y.env = (false, eval e Y.env) :: starEach [] Y.env := by rfl) (hpl : (backTo pos (starEach [] Y.env)).any (·.1) = false := by rfl) :
    PEd Y W (.Call (.Name x p) [e] [] pos) (dFailE P cl Λ tF Ng.length te) := by
  subst hcl
  refine ⟨fun pins s σ H Q J h => ?_⟩
  obtain ⟨Δ, st, I, ok, ex, wd, sl, h, cn, cx⟩ := h
  refine wpAny_Call_Name_kw (ld_glob J hg hm ?_ d1)
  refine PySem.W.callWith_K (h₀ := Y.base) J.ok.mod.kin Fg.kp (thn ((pa_cons he' pa_nil he).run pos pins s σ H (fun vs H1 => ∃ v, vs = [v] ∧ ∃ (d : Sv) (st1 : Store) (I1 : Hp), Wd Y.K st1 I1 H1 ∧ Stp st I H st1 I1 H1 ∧ IsS Y.K I1 d v ∧
    ∃ (j : Nat) (q : Str) (Δg : List Sv) (σg : List (Option V)), st1[j]? = some (P, Ob.tbl q Δg σg) ∧ ∀ σ : L2.St, tF (dAct P Y.env.cells Λ σ) (d :: List.replicate (Ng.length - 1) .un) (st1.set j (P, Ob.tbl q Δ σ)) (endsOf ok ex)) J ?_) fun us s1 ⟨vs, H1, J1, r, v, e1, d, st1, I1, w1, sp1, i1, j, q, Δg, σg, hst, ht⟩ => ⟨J1.kIn, ?_⟩) he hpl
  · exact low_go (t := te) wd sl h (fun s2 st2 v2 I2 H2 h2 w2 sp2 i2 => ⟨v2, rfl, s2, st2, I2, w2, sp2, i2, h2⟩) cx
  subst e1
  obtain ⟨oc, od, kV, doc, pm, an, cdv, ct, osl, rfl, lk, hcd⟩ := Fg.ex
  have hb1 := hb s1 us J1.kIn (by rw [List.append_nil, ← r.length]; rfl)
  rw [List.append_nil] at hb1
  obtain ⟨w2, sp2⟩ := wd_ghost w1 hst (sl.mono sp1.ii)
  have spt := sp1.trans sp2
  have rc : codeAny (model Y.prog Y.w) Y.A (.call (.ref g) ⟨us, []⟩) (CR (L2.CX Y.prog Y.w) Y.stack Y.prog Y.w H1 s1 Q fun cls d H' => W cls d σ H') s1 := by
    refine LamX.run_ofS (N := Ng) (ps := [a]) (us := us) (vs := [v]) lk hcd Sg hr J1.env0 hb1 r rfl fun hr' => ?_
    refine ⟨_, hF cdv Y.A Y.stack s1 H1 (fun cls d H' => W cls d σ H') (dAct P Y.env.cells Λ σ) hr' (takes_of rfl rfl rfl rfl) (passes_of rfl) fun V pn xe p1 p2 tk2 => act_pe (Cap.of J1) L hr' tk2 hN0 hva d2 d3, ?_⟩
    refine lowS_go w2 (sl_start (.cons i1 .nil)) (ht σ) ⟨?_, ?_, ?_, ?_, ?_⟩
    · rintro Δ' st' σ' I' H' ⟨st'', hs, h'⟩ w' s' l'
      exact (cn.go spt) _ _ _ _ _ h' (wd_drop w' hs) (stp_drop s' hs) (.dat .non)
    · rintro x st' v' I' H' ⟨s', st'', hf, h'⟩ w' sp i'
      obtain ⟨I2, w3, s3, i2⟩ := fin_ok w' sp i' hf
      exact (cn.go spt) _ _ _ _ _ h' w3 s3 i2
    · intro _ _ _ _ _ h'
      exact h'.elim
    · intro _ _ _ _ _ h'
      exact h'.elim
    · rintro x Δ' st' cls d σ' I' H' ⟨st'', hs, h'⟩ w' sp l' xi
      exact (cx.go spt) x st'' cls d I' H' h' (wd_drop w' hs) (stp_drop sp hs) xi
  refine wpAny_call (codeAny_mono rc fun r s' hq => ?_)
  cases r with
  | error e => exact tk e s' (XE.of_call J1 (fun cls d H' z => z) hq)
  | ok fl =>
    cases fl with
    | ret u => exact J1.after hq
    | next => exact False.elim hq
    | brk => exact False.elim hq
    | cont => exact False.elim hq
end DD
namespace DD
open PySem PySem.Spec PyProof.Rows L2
namespace LP
def tst : Stmt → Expr
  | .If (test := e) .. => e
  | .While (test := e) .. => e
  | _ => .Constant .none 0 ⟨0, 0, 0, 0⟩
def cl : Expr → Expr
  | .Compare (left := e) .. => e
  | e => e
def un : Expr → Expr
  | .UnaryOp (operand := e) .. => e
  | e => e
end LP
end DD
namespace DD
open PySem PySem.Spec PyProof.Rows L2
end DD
namespace DD
open PySem PySem.Spec PyProof.Rows L2
theorem lowS_parC3 {K : PySem.W.Frag} {W : WX} {i j m : Nat} {t : DA} : ∀ D σ H, lowS K (dPar3 i j m t) W D σ H → tAsg (tTup (lowA K t W)) (gTup K 3 (gCons (gName i) (gCons (gName j) (gCons (gName m) gNil)))) D σ H := by
  rintro D σ H ⟨Δ, st, I, N, wd, sl, h, e⟩
  refine lowA_go wd sl h (fun xs st1 vs I1 H1 h1 w1 s1 i1 => ?_) (cx_of sl e)
  split at h1
  · cases i1 with
    | cons a i1 =>
      cases i1 with
      | cons b i1 =>
        cases i1 with
        | cons c i1 =>
          cases i1
          refine ⟨by rw [sizeLine_eq]; simp only [List.length_cons, List.length_nil]; decide, fun p hp => ?_⟩
          obtain ⟨w2, s2⟩ := new_known (o := .tup _) w1 hp
          exact ⟨p, _, rfl, .inl (.inl upd_same), rfl, _, _, rfl, _, _, rfl, _, _, rfl, rfl, e.nx _ _ _ _ _ h1 w2 (s1.trans s2) (((((sl.mono s1.ii).mono s2.ii).set (a.mono s2.ii)).set (b.mono s2.ii)).set (c.mono s2.ii))⟩
  · exact h1.elim
theorem sparC3 {X : Cx} {W : WX} {x y z : Str} {a b c : Expr} {t : DA} {px py pz pt pos pt2 : Pos} {kt k2 : Nat} (i j m : Nat) (hN : X.N.Nodup) (ha : PAd X W [a, b, c] t) (hc : X.calm = true := by rfl) (hi : X.N[i]? = some x := by rfl) (hj : X.N[j]? = some y := by rfl) (hm : X.N[m]? = some z := by rfl)
    (hx : Loc X.env.scope x := by first | exact Or.inl rfl | exact Or.inr rfl) (hy : Loc X.env.scope y := by first | exact Or.inl rfl | exact Or.inr rfl) (hz : Loc X.env.scope z := by first | exact Or.inl rfl | exact Or.inr rfl)
    (hfx : X.fn x = true ∨ X.env.scope.names.lookup x = some .local := by first | exact .inl rfl | exact .inr rfl | assumption) (hfy : X.fn y = true ∨ X.env.scope.names.lookup y = some .local := by first | exact .inl rfl | exact .inr rfl | assumption) (hfz : X.fn z = true ∨ X.env.scope.names.lookup z = some .local := by first | exact .inl rfl | exact .inr rfl | assumption)
    (hw : swappedStores [.Tuple [.Name x px, .Name y py, .Name z pz] kt pt] (.Tuple [a, b, c] k2 pt2) X.env = pure none := by rfl)
    (hs : swapsWithSole [.Tuple [.Name x px, .Name y py, .Name z pz] kt pt] (.Tuple [a, b, c] k2 pt2) pos.line X.env = pure false := by rfl) : PSd X W (.Assign [.Tuple [.Name x px, .Name y py, .Name z pz] kt pt] (.Tuple [a, b, c] k2 pt2) pos) (dPar3 i j m t) :=
  PS.imp (ps_asg (pe_tup ha) (pg_tup hc (pgs_cons (pg_name hN hi hx hfx) (pgs_cons (pg_name hN hj hy hfy) (pgs_cons (pg_name hN hm hz hfz) pgs_nil)))) hs hw) lowS_parC3
end DD
namespace DD
open PySem PySem.Spec PyProof.Rows L2
def dStar (te : DE) (t : DA) : DA := fun Δ st ok ex => te Δ st (fun x st1 => match x with
  | .dat (.tup ds) => t Δ st1 (fun ys st2 => ok (ds.map Sv.dat ++ ys) st2) ex
  | .dat (.lst ds) => t Δ st1 (fun ys st2 => ok (ds.map Sv.dat ++ ys) st2) ex
  | _ => False) ex
theorem lowA_star {K : PySem.W.Frag} {W : WX} {te : DE} {t : DA} : ∀ σ H Q, lowA K (dStar te t) W σ H Q → StX.tStar K (low K te W) (lowA K t W) σ H Q := by
  rintro σ H Q ⟨Δ, st, I, ok, ex, wd, sl, h, c, cx⟩
  refine low_go wd sl h (fun x st1 v I1 H1 h1 w1 s1 i1 => ?_) cx
  cases i1 with
  | own p => exact h1.elim
  | dat hd =>
    cases hd with
    | tup a b =>
      refine ⟨_, _, rfl, .inl (w1.sub.st a.st), lowA_go w1 (sl.mono s1.ii) h1 (fun ys st2 vs I2 H2 h2 w2 s2 i2 => ?_) (cx.go s1)⟩
      exact c _ _ _ _ _ h2 w2 (s1.trans s2) (paired_app (isSs_of (b.mono s2.ii)) i2)
    | lst a b =>
      refine ⟨_, _, rfl, .inr (w1.sub.sl (.inl (.inl a))), lowA_go w1 (sl.mono s1.ii) h1 (fun ys st2 vs I2 H2 h2 w2 s2 i2 => ?_) (cx.go s1)⟩
      exact c _ _ _ _ _ h2 w2 (s1.trans s2) (paired_app (isSs_of (b.mono s2.ii)) i2)
    | _ => exact h1.elim
theorem astar {X : Cx} {W : WX} {e : Expr} {es : List Expr} {te : DE} {t : DA} {p : Pos} (he : PEd X W e te) (hr : PAd X W es t) (hs : starEach (.Starred e p :: es) X.env = (true, eval e X.env) :: starEach es X.env := by rfl) : PAd X W (.Starred e p :: es) (dStar te t) := by
  refine ⟨fun pos pins s σ H Q J h => ?_⟩
  exact (StX.pa_star he hr hs).run pos pins s σ H Q J (lowA_star σ H Q h)
end DD
namespace DD
open PySem PySem.Spec PyProof.Rows L2
end DD
namespace DD
open PySem PySem.Spec PyProof.Rows L2
@[irreducible] def lcD2 (g : DG) (tt : DT) (it1 : DI) (g1 : DG) (tt1 : DT) (te : DE) (vs vs1 : List Nat) (xs : List Sv) (Δ : List Sv) (st1 : Store) (ok : OK) : Prop := ∀ D, D ∉ keys st1 → ∃ J : Nat → List Sv → Store → Prop, J 0 [] st1 ∧
  (∀ i d acc st', xs[i]? = some d → J i acc st' → D ∉ keys st' → g d (wipeD Δ vs) ((D, .lst acc) :: st') fun Δ2 st2 => tt Δ2 st2 (fun b st3 =>
    (b = true → it1 Δ2 st3 (fun ys st4 => ∃ J1 : Nat → List Sv → Store → Prop, (∃ acc1 st5, st4 = (D, .lst acc1) :: st5 ∧ J1 0 acc1 st5) ∧
      (∀ j e acc1 st5, ys[j]? = some e → J1 j acc1 st5 → D ∉ keys st5 → g1 e (wipeD Δ2 vs1) ((D, .lst acc1) :: st5) fun Δ3 st6 => tt1 Δ3 st6 (fun b1 st7 =>
        (b1 = true → te Δ3 st7 (fun y st8 => ∃ acc' st9, st8 = (D, .lst acc') :: st9 ∧ acc'.length < sizeLine ∧ J1 (j + 1) (acc' ++ [y]) st9) fun _ _ => False) ∧ (b1 = false → ∃ acc' st9, st7 = (D, .lst acc') :: st9 ∧ J1 (j + 1) acc' st9)) fun _ _ => False) ∧
      ∀ acc1 st5, J1 ys.length acc1 st5 → J (i + 1) acc1 st5) fun _ _ => False) ∧
    (b = false → ∃ acc' st5, st3 = (D, .lst acc') :: st5 ∧ J (i + 1) acc' st5)) fun _ _ => False) ∧
  ∀ acc st', J xs.length acc st' → ∃ ds, AllD acc ds ∧ ok (.dat (.lst ds)) st'
theorem lcD2_eq (g : DG) (tt : DT) (it1 : DI) (g1 : DG) (tt1 : DT) (te : DE) (vs vs1 : List Nat) (xs : List Sv) (Δ : List Sv) (st1 : Store) (ok : OK) : lcD2 g tt it1 g1 tt1 te vs vs1 xs Δ st1 ok = (∀ D, D ∉ keys st1 → ∃ J : Nat → List Sv → Store → Prop, J 0 [] st1 ∧
  (∀ i d acc st', xs[i]? = some d → J i acc st' → D ∉ keys st' → g d (wipeD Δ vs) ((D, .lst acc) :: st') fun Δ2 st2 => tt Δ2 st2 (fun b st3 =>
    (b = true → it1 Δ2 st3 (fun ys st4 => ∃ J1 : Nat → List Sv → Store → Prop, (∃ acc1 st5, st4 = (D, .lst acc1) :: st5 ∧ J1 0 acc1 st5) ∧
      (∀ j e acc1 st5, ys[j]? = some e → J1 j acc1 st5 → D ∉ keys st5 → g1 e (wipeD Δ2 vs1) ((D, .lst acc1) :: st5) fun Δ3 st6 => tt1 Δ3 st6 (fun b1 st7 =>
        (b1 = true → te Δ3 st7 (fun y st8 => ∃ acc' st9, st8 = (D, .lst acc') :: st9 ∧ acc'.length < sizeLine ∧ J1 (j + 1) (acc' ++ [y]) st9) fun _ _ => False) ∧ (b1 = false → ∃ acc' st9, st7 = (D, .lst acc') :: st9 ∧ J1 (j + 1) acc' st9)) fun _ _ => False) ∧
      ∀ acc1 st5, J1 ys.length acc1 st5 → J (i + 1) acc1 st5) fun _ _ => False) ∧
    (b = false → ∃ acc' st5, st3 = (D, .lst acc') :: st5 ∧ J (i + 1) acc' st5)) fun _ _ => False) ∧
  ∀ acc st', J xs.length acc st' → ∃ ds, AllD acc ds ∧ ok (.dat (.lst ds)) st') := by
  unfold lcD2
  rfl
def dLc2 (it : DI) (g : DG) (tt : DT) (it1 : DI) (g1 : DG) (tt1 : DT) (te : DE) (vs vs1 : List Nat) : DE := fun Δ st ok ex => it Δ st (fun xs st1 => lcD2 g tt it1 g1 tt1 te vs vs1 xs Δ st1 ok) ex
theorem low_lc2 {K : PySem.W.Frag} {W : WX} {it it1 : DI} {g g1 : DG} {tt tt1 : DT} {te : DE} {vs vs1 : List Nat} : ∀ σ H Q, low K (dLc2 it g tt it1 g1 tt1 te vs vs1) W σ H Q → tLc2 (lowI K it W) (lowGw K vs g) (lowT K tt W0) (lowI K it1 W0) (lowGw K vs1 g1) (lowT K tt1 W0) (low K te W0) vs vs1 σ H Q := by
  rintro σ H Q ⟨Δ, st, I, ok, ex, wd, sl, h, c, cx⟩
  refine ⟨Δ, st, I, _, _, wd, sl, h, fun xs st1 I1 H1 J h1 w1 s1 k1 => ?_, cx⟩
  intro D hD
  have c1 := c.go s1
  have sl1 := sl.mono s1.ii
  obtain ⟨np, w2, s2⟩ := new_own (o := .lst []) (ob := .lst []) w1 hD (.lst .nil)
  rw [lcD2_eq] at h1
  obtain ⟨Jv, j0, jt, je⟩ := h1 D np
  obtain ⟨G, Y, wk, hg, hy⟩ := k1.w
  refine ⟨fun i m H' => m = xs.length - i ∧ i ≤ xs.length ∧ ∃ acc st' I', Jv i acc st' ∧ Wd K ((D, .lst acc) :: st') I' H' ∧ Stp st1 I1 H1 ((D, .lst acc) :: st') I' H', ⟨_, rfl, Nat.zero_le _, [], st1, I1, j0, w2, s2⟩, ?_⟩
  rintro i m H' ⟨rfl, hi, acc, st', I', hj, w', s'⟩
  have hG := hg _ I' H' w' s'
  by_cases hlt : i < xs.length
  · refine .inr ⟨wk.goes i H' hlt hG, fun H => ∃ acc st' I', Jv (i + 1) acc st' ∧ Wd K ((D, .lst acc) :: st') I' H ∧ Stp st1 I1 H1 ((D, .lst acc) :: st') I' H, fun H p => ⟨xs.length - (i + 1), by omega, rfl, hlt, p⟩, fun x H3 y => ?_⟩
    obtain ⟨d, I3, hd, w3, s3, ix⟩ := hy i H' x H3 _ I' hlt w' s' (wk.yields i H' x H3 hlt hG y)
    have s13 := s'.trans s3
    have nd : D ∉ keys st' := (List.nodup_cons.mp w'.nd).1
    refine ⟨d, _, _, I3, _, w3, sl_wipe (sl1.mono s13.ii) vs, ix, jt i d acc st' hd hj nd, fun Δ4 st4 σ4 I4 H4 h4 w4 s4 l4 e4 => ?_⟩
    have s14 := s13.trans s4
    refine ⟨by rw [e4, wipe_wipe], ?_⟩
    refine lowT_go w4 l4 h4 (fun b st5 I5 H5 h5 w5 s5 => ?_) (fun _ _ _ _ _ _ z => z.elim)
    have s15 := s14.trans s5
    cases b with
    | false =>
      refine iteF ?_
      obtain ⟨acc', st7, rfl, hj'⟩ := h5.2 rfl
      exact ⟨acc', st7, I5, hj', w5, s15⟩
    | true =>
      refine iteT ?_
      refine ⟨Δ4, st5, I5, _, _, w5, l4.mono s5.ii, h5.1 rfl, fun ys st6 I6 H6 J1 h6 w6 s6 k6 => ?_, fun _ _ _ _ _ _ z => z.elim⟩
      have s16 := s15.trans s6
      obtain ⟨Jw, ⟨acc1, st7, rfl, j10⟩, jt1, je1⟩ := h6
      obtain ⟨G1, Y1, wk1, hg1, hy1⟩ := k6.w
      refine ⟨fun j k H => k = ys.length - j ∧ j ≤ ys.length ∧ ∃ acc st' I', Jw j acc st' ∧ Wd K ((D, .lst acc) :: st') I' H ∧ Stp ((D, Ob.lst acc1) :: st7) I6 H6 ((D, .lst acc) :: st') I' H, ⟨_, rfl, Nat.zero_le _, acc1, st7, I6, j10, w6, Stp.refl _ _ _⟩, ?_⟩
      rintro j k H7 ⟨rfl, hjl, acc2, st8, I8, hj2, w8, s8⟩
      have hG1 := hg1 _ I8 H7 w8 s8
      by_cases hlt1 : j < ys.length
      · refine .inr ⟨wk1.goes j H7 hlt1 hG1, fun H => ∃ acc st' I', Jw (j + 1) acc st' ∧ Wd K ((D, .lst acc) :: st') I' H ∧ Stp ((D, Ob.lst acc1) :: st7) I6 H6 ((D, .lst acc) :: st') I' H, fun H p => ⟨ys.length - (j + 1), by omega, rfl, hlt1, p⟩, fun x1 H9 y1 => ?_⟩
        obtain ⟨d1, I9, hd1, w9, s9, ix1⟩ := hy1 j H7 x1 H9 _ I8 hlt1 w8 s8 (wk1.yields j H7 x1 H9 hlt1 hG1 y1)
        have s89 := s8.trans s9
        have nd1 : D ∉ keys st8 := (List.nodup_cons.mp w8.nd).1
        refine ⟨d1, _, _, I9, _, w9, sl_wipe (((l4.mono s5.ii).mono s6.ii).mono s89.ii) vs1, ix1, jt1 j d1 acc2 st8 hd1 hj2 nd1, fun Δa sta σa Ia Ha ha wa sa la ea => ?_⟩
        have s8a := s89.trans sa
        refine ⟨by rw [ea, wipe_wipe], ?_⟩
        refine lowT_go wa la ha (fun b1 stb Ib Hb hb wb sb => ?_) (fun _ _ _ _ _ _ z => z.elim)
        have s8b := s8a.trans sb
        cases b1 with
        | true =>
          refine iteT (low_go wb (la.mono sb.ii) (hb.1 rfl) (fun z stc u Ic Hc hc wc sc ic => ?_) (fun _ _ _ _ _ _ z => z.elim))
          obtain ⟨acc', ste, rfl, hlen, hj'⟩ := hc
          obtain ⟨_, o, ho, io⟩ := wc.own D _ List.mem_cons_self
          cases io with
          | @lst _ ws hws =>
            obtain ⟨w7, s7⟩ := set_own (j := 0) (o' := .lst (ws ++ [u])) (ob' := .lst (acc' ++ [z])) wc rfl (.lst (paired_app hws (.cons ic .nil)))
            exact ⟨ws, ho, by rw [← paired_len hws]; exact hlen, acc' ++ [z], ste, Ic, hj', w7, (s8b.trans sc).trans s7⟩
        | false =>
          refine iteF ?_
          obtain ⟨acc', ste, rfl, hj'⟩ := hb.2 rfl
          exact ⟨acc', ste, Ib, hj', wb, s8b⟩
      · have ej : j = ys.length := by omega
        subst ej
        exact .inl ⟨wk1.stops H7 hG1, acc2, st8, I8, je1 _ _ hj2, w8, s16.trans s8⟩
  · have ei : i = xs.length := by omega
    subst ei
    obtain ⟨ds, ha, hok⟩ := je _ _ hj
    obtain ⟨_, o, ho, io⟩ := w'.own D _ List.mem_cons_self
    cases io with
    | lst hs =>
      obtain ⟨w9, s9, e9⟩ := pub_head w' ho s'
      exact .inl ⟨wk.stops H' hG, c1 _ _ _ _ _ hok w9 s9 (.dat (.lst upd_same ((isDs_of ha hs).mono e9)))⟩
theorem ssetLc2 {X : Cx} {W : WX} {y : Str} {py : Pos} {elt tg iter tg1 iter1 : Expr} {ifs ifs1 : List Expr} {scope : Scope} {pos spos : Pos} {te : DE} (i : Nat) (own : List (Str × Nat)) (vs1 : List Nat) {it it1 : DI} {g g1 : DG} {tt tt1 : DT} (hN : X.N.Nodup) (hi : PId X W tg iter it) (ok : BlkOk X.N X.env.scope scope own)
    (hg : ∀ (s : Shared) (H : Hp) (C : Addr) (cl : List (Str × Addr)) (fp : List Addr), PGw (X.blk s H scope (compEnvC scope cl C X.env) fp) (own.map (·.2)) tg g) (ht : ∀ (s : Shared) (H : Hp) (C : Addr) (cl : List (Str × Addr)) (fp : List Addr), PTsd (X.blk s H scope (compEnvC scope cl C X.env) fp) ifs tt)
    (hi1 : ∀ (s : Shared) (H : Hp) (C : Addr) (cl : List (Str × Addr)) (fp : List Addr), PId (X.blk s H scope (compEnvC scope cl C X.env) fp) W0 tg1 iter1 it1)
    (hg1 : ∀ (s : Shared) (H : Hp) (C : Addr) (cl : List (Str × Addr)) (fp : List Addr), PGw (X.blk s H scope (compEnvC scope cl C X.env) fp) vs1 tg1 g1) (ht1 : ∀ (s : Shared) (H : Hp) (C : Addr) (cl : List (Str × Addr)) (fp : List Addr), PTsd (X.blk s H scope (compEnvC scope cl C X.env) fp) ifs1 tt1)
    (he : ∀ (s : Shared) (H : Hp) (C : Addr) (cl : List (Str × Addr)) (fp : List Addr), PEd (X.blk s H scope (compEnvC scope cl C X.env) fp) W0 elt te) (hv : ∀ i ∈ vs1, i ∈ own.map (·.2) := by decide) (hc : X.calm = true := by rfl) (hy : X.N[i]? = some y := by rfl) (hyl : X.env.scope.names.lookup y = some .local := by rfl)
    (hsw : swapsWith (.ListComp elt [⟨tg, iter, ifs, 0⟩, ⟨tg1, iter1, ifs1, 0⟩] scope pos) (some (.Name y py)) spos.line X.env = pure true := by rfl) (hs : ∀ x, foldedSetIterable iter X.env x = pure x := by intro _; rfl)
    (hs1 : ∀ env x, foldedSetIterable iter1 env x = pure x := by intro _ _; rfl) :
    PSd X W (.Assign [.Name y py] (.ListComp elt [⟨tg, iter, ifs, 0⟩, ⟨tg1, iter1, ifs1, 0⟩] scope pos) spos) (dAsg i (dLc2 it g tt it1 g1 tt1 te (own.map (·.2)) vs1)) :=
  PS.imp (ps_setLc2 hc hN hy hyl hsw hi ok hv hg ht hi1 hg1 ht1 he hs hs1) fun D σ H h => low_lc2 _ _ _ (lowS_asg D σ H h)
/-- both walks pure: what is made -/
def J2 {α β : Type} (as : List α) (bs : α → List β) (f : α → β → Option Dt) (st : Store) : Nat → List Sv → Store → Prop := fun i acc st' => st' = st ∧ acc = ((as.take i).flatMap fun a => (bs a).filterMap (f a)).map Sv.dat
def J2i {α β : Type} (as : List α) (bs : α → List β) (f : α → β → Option Dt) (st : Store) (i : Nat) (a : α) : Nat → List Sv → Store → Prop := fun j acc st' => st' = st ∧ acc = (((as.take i).flatMap fun a => (bs a).filterMap (f a)) ++ ((bs a).take j).filterMap (f a)).map Sv.dat
theorem lc2_pure {α β : Type} {g : DG} {tt : DT} {it1 : DI} {g1 : DG} {tt1 : DT} {te : DE} {vs vs1 : List Nat} {xs : List Sv} {Δ : List Sv} {st : Store} {ok : OK} (as : List α) (ea : α → Dt) (bs : α → List β) (f : α → β → Option Dt) (hx : xs = as.map fun a => .dat (ea a))
    (hb : ∀ (i : Nat) (a : α) (D : Addr) (acc : List Sv), as[i]? = some a → D ∉ keys st → J2 as bs f st i acc st → g (.dat (ea a)) (wipeD Δ vs) ((D, .lst acc) :: st) fun Δ2 st2 => tt Δ2 st2 (fun b st3 =>
    (b = true → it1 Δ2 st3 (fun ys st4 => ∃ J1 : Nat → List Sv → Store → Prop, (∃ acc1 st5, st4 = (D, .lst acc1) :: st5 ∧ J1 0 acc1 st5) ∧
      (∀ j e acc1 st5, ys[j]? = some e → J1 j acc1 st5 → D ∉ keys st5 → g1 e (wipeD Δ2 vs1) ((D, .lst acc1) :: st5) fun Δ3 st6 => tt1 Δ3 st6 (fun b1 st7 =>
        (b1 = true → te Δ3 st7 (fun y st8 => ∃ acc' st9, st8 = (D, .lst acc') :: st9 ∧ acc'.length < sizeLine ∧ J1 (j + 1) (acc' ++ [y]) st9) fun _ _ => False) ∧ (b1 = false → ∃ acc' st9, st7 = (D, .lst acc') :: st9 ∧ J1 (j + 1) acc' st9)) fun _ _ => False) ∧
      ∀ acc1 st5, J1 ys.length acc1 st5 → J2 as bs f st (i + 1) acc1 st5) fun _ _ => False) ∧
    (b = false → ∃ acc' st5, st3 = (D, .lst acc') :: st5 ∧ J2 as bs f st (i + 1) acc' st5)) fun _ _ => False)
    (hk : ok (.dat (.lst (as.flatMap fun a => (bs a).filterMap (f a)))) st) : lcD2 g tt it1 g1 tt1 te vs vs1 xs Δ st ok := by
  subst hx
  rw [lcD2_eq]
  intro D hD
  refine ⟨J2 as bs f st, ⟨rfl, rfl⟩, ?_, ?_⟩
  · rintro i d acc st' hd hJ hD'
    obtain ⟨rfl, _⟩ := id hJ
    rw [List.getElem?_map] at hd
    cases ea' : as[i]? with
    | none => rw [ea'] at hd; cases hd
    | some a =>
      rw [ea'] at hd
      cases hd
      exact hb i a D acc ea' hD' hJ
  · rintro acc st' ⟨rfl, rfl⟩
    rw [List.length_map, List.take_length]
    exact ⟨_, .map _, hk⟩
theorem lc2_in {α β : Type} {g1 : DG} {tt1 : DT} {te : DE} {vs1 : List Nat} {as : List α} {bs : α → List β} {f : α → β → Option Dt} {st : Store} {i : Nat} {a : α} {D : Addr} {acc : List Sv} {ys : List Sv} {Δ2 : List Sv} (eb : β → Dt) (ha : as[i]? = some a) (hD : D ∉ keys st) (hJ : J2 as bs f st i acc st)
    (hy : ys = (bs a).map fun b => .dat (eb b))
    (hb : ∀ (j : Nat) (b : β) (acc1 : List Sv), (bs a)[j]? = some b → J2i as bs f st i a j acc1 st → g1 (.dat (eb b)) (wipeD Δ2 vs1) ((D, .lst acc1) :: st) fun Δ3 st6 => tt1 Δ3 st6 (fun b1 st7 =>
        (b1 = true → te Δ3 st7 (fun y st8 => ∃ acc' st9, st8 = (D, Ob.lst acc') :: st9 ∧ acc'.length < sizeLine ∧ J2i as bs f st i a (j + 1) (acc' ++ [y]) st9) fun _ _ => False) ∧ (b1 = false → ∃ acc' st9, st7 = (D, Ob.lst acc') :: st9 ∧ J2i as bs f st i a (j + 1) acc' st9)) fun _ _ => False) :
    ∃ J1 : Nat → List Sv → Store → Prop, (∃ acc1 st5, ((D, Ob.lst acc) :: st) = (D, Ob.lst acc1) :: st5 ∧ J1 0 acc1 st5) ∧
      (∀ j e acc1 st5, ys[j]? = some e → J1 j acc1 st5 → D ∉ keys st5 → g1 e (wipeD Δ2 vs1) ((D, .lst acc1) :: st5) fun Δ3 st6 => tt1 Δ3 st6 (fun b1 st7 =>
        (b1 = true → te Δ3 st7 (fun y st8 => ∃ acc' st9, st8 = (D, Ob.lst acc') :: st9 ∧ acc'.length < sizeLine ∧ J1 (j + 1) (acc' ++ [y]) st9) fun _ _ => False) ∧ (b1 = false → ∃ acc' st9, st7 = (D, Ob.lst acc') :: st9 ∧ J1 (j + 1) acc' st9)) fun _ _ => False) ∧
      ∀ acc1 st5, J1 ys.length acc1 st5 → J2 as bs f st (i + 1) acc1 st5 := by
  subst hy
  refine ⟨J2i as bs f st i a, ⟨acc, st, rfl, rfl, ?_⟩, ?_, ?_⟩
  · rw [hJ.2]
    simp
  · rintro j e acc1 st5 he hK hD5
    obtain ⟨rfl, _⟩ := id hK
    rw [List.getElem?_map] at he
    cases eb' : (bs a)[j]? with
    | none => rw [eb'] at he; cases he
    | some b =>
      rw [eb'] at he
      cases he
      exact hb j b acc1 eb' hK
  · rintro acc1 st5 ⟨rfl, rfl⟩
    rw [List.length_map, List.take_length]
    refine ⟨rfl, ?_⟩
    rw [List.take_succ, ha]
    simp
theorem l2_yes {α β : Type} {as : List α} {bs : α → List β} {f : α → β → Option Dt} {st : Store} {i j : Nat} {a : α} {b : β} {D : Addr} {acc : List Sv} {d : Dt} (hb : (bs a)[j]? = some b) (hJ : J2i as bs f st i a j acc st) (hf : f a b = some d) (hl : acc.length < sizeLine) :
    ∃ acc' st9, ((D, Ob.lst acc) :: st) = (D, Ob.lst acc') :: st9 ∧ acc'.length < sizeLine ∧ J2i as bs f st i a (j + 1) (acc' ++ [.dat d]) st9 := by
  refine ⟨acc, st, rfl, hl, rfl, ?_⟩
  rw [hJ.2, List.take_succ, hb]
  simp [hf]
theorem l2_no {α β : Type} {as : List α} {bs : α → List β} {f : α → β → Option Dt} {st : Store} {i j : Nat} {a : α} {b : β} {D : Addr} {acc : List Sv} (hb : (bs a)[j]? = some b) (hJ : J2i as bs f st i a j acc st) (hf : f a b = none) :
    ∃ acc' st9, ((D, Ob.lst acc) :: st) = (D, Ob.lst acc') :: st9 ∧ J2i as bs f st i a (j + 1) acc' st9 := by
  refine ⟨acc, st, rfl, rfl, ?_⟩
  rw [hJ.2, List.take_succ, hb]
  simp [hf]
end DD
namespace DD
open PySem PySem.Spec PyProof.Rows L2
def dTruT (te : DE) : DT := fun Δ st ok ex => te Δ st (fun x st1 => withT x fun xs => ok (!xs.isEmpty) st1) ex
theorem lowT_truT {K : PySem.W.Frag} {W : WX} {te : DE} : ∀ σ H Q, lowT K (dTruT te) W σ H Q → low K te W σ H (fun x H' => ∃ k, TruV K x H' k ∧ Q k H') := by
  rintro σ H Q ⟨Δ, st, I, ok, ex, wd, sl, h, c, cx⟩
  refine low_go wd sl h (fun x st1 v I1 H1 h1 w1 s1 i1 => ?_) cx
  obtain ⟨a, vs, xs, rfl, hs, hp, h1⟩ := withT_rd w1 i1 h1
  exact ⟨_, .inr (.inl ⟨vs, hs, by rw [← emp_eq hp]⟩), c _ _ _ _ h1 w1 s1⟩
theorem ttruT {X : Cx} {W : WX} {e : Expr} {te : DE} (h : PEd X W e te) (he : ∀ whole, isTrue e X.env whole = (do let v ← whole; standAt e.pos; holding [v] (truthy v)) := by intro _; rfl) : PTd X W e (dTruT te) := PT.imp (pt_truth h he) lowT_truT
def gLtStr : G2 := fun x y st ok => match x, y with
  | .dat (.str a), .dat (.str b) => ok (.dat (.bl (decide (a.cps.toList < b.cps.toList)))) st
  | _, _ => False
theorem lr_ltStr {K : PySem.W.Frag} : LR2 K (fun x y H Q => ∃ i j, x = .str i ∧ y = .str j ∧ Q (.bl (decide (i.cps.toList < j.cps.toList))) H) gLtStr := by
  intro x y st I H ok Q v w wd ix iy h c
  cases ix with
  | own p => exact h.elim
  | dat hx =>
    cases hx with
    | str a =>
      cases iy with
      | own p => exact h.elim
      | dat hy =>
        cases hy with
        | str b => exact ⟨a, b, rfl, rfl, c.now wd h (.dat (.bl _))⟩
        | _ => exact h.elim
    | _ => cases iy <;> exact h.elim
end DD
namespace SP
open PySem PySem.Spec PyProof.Rows L2 DD
section
variable {α : Type} (lt : α → α → Bool)
def lastOk (t : List α) (i : α) : Bool := match t.getLast? with
  | none => false
  | some y => lt y i
def growF (t : List α) (i : α) : Option (List α) := if (t.isEmpty || lastOk lt t i) = true then some (t ++ [i]) else none
def lvU (items : List α) : Nat → List (List α)
  | 0 => [[]]
  | n + 1 => (lvU items n).flatMap fun t => items.filterMap (growF lt t)
def subsU (items : List α) : Nat → List (List α)
  | 0 => [[]]
  | n + 1 => subsU items n ++ lvU lt items (n + 1)
def setsU (ns : List α) : List (List α) := ns.foldl (fun f n => f ++ f.map (· ++ [n])) [[]]
structure Ord1 : Prop where
  tr : ∀ a b c, lt a b = true → lt b c = true → lt a c = true
  ir : ∀ a, lt a a = false
abbrev Asc (t : List α) : Prop := t.Pairwise fun a b => lt a b = true
inductive Lx : List α → List α → Prop
  | head {x y : α} {a b : List α} : lt x y = true → Lx (x :: a) (y :: b)
  | tail {x : α} {a b : List α} : Lx a b → Lx (x :: a) (x :: b)
variable {lt}
theorem lx_app {a b : List α} (h : Lx lt a b) (r s : List α) : Lx lt (a ++ r) (b ++ s) := by
  induction h with
  | head h => exact .head h
  | tail _ ih => exact .tail ih
theorem lx_end (p : List α) {x y : α} (h : lt x y = true) : Lx lt (p ++ [x]) (p ++ [y]) := by
  induction p with
  | nil => exact .head h
  | cons a p ih => exact .tail ih
theorem lx_ne {o : Ord1 lt} {a b : List α} (h : Lx lt a b) : a ≠ b := by
  induction h with
  | @head x y a b h =>
    intro e
    cases e
    rw [o.ir] at h
    cases h
  | tail _ ih => intro e; cases e; exact ih rfl
theorem last_ok {t : List α} {y : α} (hy : t.getLast? = some y) (i : α) : lastOk lt t i = lt y i := by
  unfold lastOk
  rw [hy]
theorem grow_some {t : List α} {i : α} {u : List α} (h : growF lt t i = some u) : u = t ++ [i] ∧ ∀ y, t.getLast? = some y → lt y i = true := by
  unfold growF at h
  by_cases hc : (t.isEmpty || lastOk lt t i) = true
  · rw [if_pos hc] at h
    cases h
    refine ⟨rfl, fun y hy => ?_⟩
    rw [last_ok hy] at hc
    cases t with
    | nil => cases hy
    | cons a t => simpa using hc
  · rw [if_neg hc] at h
    cases h
theorem grow_yes {t : List α} {i : α} (h : ∀ y, t.getLast? = some y → lt y i = true) : growF lt t i = some (t ++ [i]) := by
  unfold growF
  rw [if_pos]
  cases t with
  | nil => rfl
  | cons a t =>
    cases e : (a :: t).getLast? with
    | none => simp at e
    | some y => rw [last_ok e, h y e, Bool.or_true]
theorem asc_last (o : Ord1 lt) {t : List α} {i : α} (ha : Asc lt t) (h : ∀ y, t.getLast? = some y → lt y i = true) : Asc lt (t ++ [i]) := by
  refine List.pairwise_append.mpr ⟨ha, by simp, fun a h1 b h2 => ?_⟩
  rw [List.mem_singleton.mp h2]
  rcases List.eq_nil_or_concat t with rfl | ⟨s, y, rfl⟩
  · cases h1
  · rw [List.concat_eq_append] at *
    have hy : lt y i = true := h y (by simp)
    rcases List.mem_append.mp h1 with h1 | h1
    · exact o.tr _ _ _ ((List.pairwise_append.mp ha).2.2 a h1 y (by simp)) hy
    · rw [List.mem_singleton.mp h1]; exact hy
theorem lv_mem (o : Ord1 lt) (items : List α) : ∀ (n : Nat) (t : List α), t ∈ lvU lt items n ↔ t.length = n ∧ Asc lt t ∧ ∀ x ∈ t, x ∈ items
  | 0, t => by
    unfold lvU
    rw [List.mem_singleton, List.length_eq_zero_iff]
    exact ⟨fun h => by subst h; exact ⟨rfl, by simp, by simp⟩, fun h => h.1⟩
  | n + 1, t => by
    unfold lvU
    rw [List.mem_flatMap]
    refine ⟨fun ⟨s, hs, ht⟩ => ?_, fun ⟨h1, h2, h3⟩ => ?_⟩
    · obtain ⟨s1, s2, s3⟩ := (lv_mem o items n s).mp hs
      obtain ⟨i, hi, hg⟩ := List.mem_filterMap.mp ht
      obtain ⟨rfl, hl⟩ := grow_some hg
      refine ⟨by rw [List.length_append, s1]; rfl, asc_last o s2 hl, fun x hx => ?_⟩
      rcases List.mem_append.mp hx with hx | hx
      · exact s3 x hx
      · rw [List.mem_singleton.mp hx]; exact hi
    · rcases List.eq_nil_or_concat t with rfl | ⟨s, y, rfl⟩
      · cases h1
      · rw [List.concat_eq_append] at *
        obtain ⟨p1, p2, p3⟩ := List.pairwise_append.mp h2
        refine ⟨s, (lv_mem o items n s).mpr ⟨?_, p1, fun x hx => h3 x (List.mem_append_left _ hx)⟩, List.mem_filterMap.mpr ⟨y, h3 y (by simp), grow_yes fun z hz => p3 z (List.mem_of_getLast? hz) y (by simp)⟩⟩
        rw [List.length_append] at h1
        simpa using h1
theorem lv_pw (o : Ord1 lt) {items : List α} (hi : Asc lt items) : ∀ n, (lvU lt items n).Pairwise (Lx lt)
  | 0 => by unfold lvU; simp
  | n + 1 => by
    unfold lvU
    refine List.pairwise_flatMap.mpr ⟨fun t _ => ?_, (lv_pw o hi n).imp fun {t u} h x hx y hy => ?_⟩
    · rw [List.pairwise_filterMap]
      refine hi.imp fun {i j} h x hx y hy => ?_
      obtain ⟨rfl, _⟩ := grow_some hx
      obtain ⟨rfl, _⟩ := grow_some hy
      exact lx_end t h
    · obtain ⟨i, _, hx⟩ := List.mem_filterMap.mp hx
      obtain ⟨j, _, hy⟩ := List.mem_filterMap.mp hy
      obtain ⟨rfl, _⟩ := grow_some hx
      obtain ⟨rfl, _⟩ := grow_some hy
      exact lx_app h _ _
theorem subs_mem (o : Ord1 lt) (items : List α) : ∀ (n : Nat) (t : List α), t ∈ subsU lt items n ↔ t.length ≤ n ∧ Asc lt t ∧ ∀ x ∈ t, x ∈ items
  | 0, t => by
    have := lv_mem o items 0 t
    unfold subsU
    unfold lvU at this
    rw [this]
    refine and_congr_left fun _ => ?_
    omega
  | n + 1, t => by
    unfold subsU
    rw [List.mem_append, subs_mem o items n, lv_mem o]
    refine ⟨fun h => ?_, fun ⟨h1, h2⟩ => ?_⟩
    · rcases h with ⟨h1, h2⟩ | ⟨h1, h2⟩
      · exact ⟨by omega, h2⟩
      · exact ⟨by omega, h2⟩
    · rcases Nat.lt_or_ge t.length (n + 1) with h | h
      · exact .inl ⟨by omega, h2⟩
      · exact .inr ⟨by omega, h2⟩
def SzLt (lt : α → α → Bool) (a b : List α) : Prop := a.length < b.length ∨ a.length = b.length ∧ Lx lt a b
theorem subs_pw (o : Ord1 lt) {items : List α} (hi : Asc lt items) : ∀ n, (subsU lt items n).Pairwise (SzLt lt)
  | 0 => by unfold subsU; simp
  | n + 1 => by
    unfold subsU
    refine List.pairwise_append.mpr ⟨subs_pw o hi n, ?_, fun a ha b hb => ?_⟩
    · refine List.Pairwise.imp_of_mem (fun {a b} ha hb h => ?_) (lv_pw o hi (n + 1))
      exact .inr ⟨by rw [((lv_mem o items _ _).mp ha).1, ((lv_mem o items _ _).mp hb).1], h⟩
    · have h1 := ((subs_mem o items _ _).mp ha).1
      have h2 := ((lv_mem o items _ _).mp hb).1
      exact .inl (by omega)
theorem subs_nd (o : Ord1 lt) {items : List α} (hi : Asc lt items) (n : Nat) : (subsU lt items n).Nodup := by
  refine (subs_pw o hi n).imp fun {a b} h e => ?_
  subst e
  rcases h with h | ⟨_, h⟩
  · omega
  · exact lx_ne (o := o) h rfl
theorem sets_snoc (ns : List α) (n : α) : setsU (ns ++ [n]) = setsU ns ++ (setsU ns).map (· ++ [n]) := by
  unfold setsU
  rw [List.foldl_append]
  rfl
theorem snoc_ind {P : List α → Prop} (h0 : P []) (h : ∀ l x, P l → P (l ++ [x])) (l : List α) : P l := by
  have : ∀ n (l : List α), l.length = n → P l := by
    intro n
    induction n with
    | zero => intro l hl; rw [List.length_eq_zero_iff.mp hl]; exact h0
    | succ n ih =>
      intro l hl
      rcases List.eq_nil_or_concat l with rfl | ⟨s, y, rfl⟩
      · exact h0
      · rw [List.concat_eq_append] at *
        rw [List.length_append] at hl
        exact h _ _ (ih s (by simpa using hl))
  exact this _ l rfl
theorem sets_mem (o : Ord1 lt) (ns : List α) (hn : Asc lt ns) (t : List α) : t ∈ setsU ns ↔ Asc lt t ∧ ∀ x ∈ t, x ∈ ns := by
  revert t hn
  refine snoc_ind (P := fun ns => Asc lt ns → ∀ t, t ∈ setsU ns ↔ Asc lt t ∧ ∀ x ∈ t, x ∈ ns) (fun _ t => ?_) (fun ns n ih hn t => ?_) ns
  · show t ∈ [[]] ↔ _
    rw [List.mem_singleton]
    refine ⟨fun h => by subst h; simp, fun ⟨_, h⟩ => ?_⟩
    cases t with
    | nil => rfl
    | cons a t => cases h a List.mem_cons_self
  · obtain ⟨p1, p2, p3⟩ := List.pairwise_append.mp hn
    rw [sets_snoc, List.mem_append, ih p1]
    refine ⟨fun h => ?_, fun ⟨h1, h2⟩ => ?_⟩
    · rcases h with ⟨h1, h2⟩ | h
      · exact ⟨h1, fun x hx => List.mem_append_left _ (h2 x hx)⟩
      · obtain ⟨s, hs, rfl⟩ := List.mem_map.mp h
        obtain ⟨h1, h2⟩ := (ih p1 s).mp hs
        refine ⟨List.pairwise_append.mpr ⟨h1, by simp, fun a ha b hb => ?_⟩, fun x hx => ?_⟩
        · exact p3 a (h2 a ha) b hb
        · rcases List.mem_append.mp hx with hx | hx
          · exact List.mem_append_left _ (h2 x hx)
          · exact List.mem_append_right _ hx
    · rcases List.eq_nil_or_concat t with rfl | ⟨s, y, rfl⟩
      · exact .inl ⟨h1, by simp⟩
      · rw [List.concat_eq_append] at *
        obtain ⟨q1, q2, q3⟩ := List.pairwise_append.mp h1
        have hs : ∀ x ∈ s, x ∈ ns := by
          intro x hx
          rcases List.mem_append.mp (h2 x (List.mem_append_left _ hx)) with h | h
          · exact h
          · exfalso
            have hxn := List.mem_singleton.mp h
            subst hxn
            have hxy := q3 x hx y (by simp)
            rcases List.mem_append.mp (h2 y (by simp)) with h | h
            · have := o.tr _ _ _ hxy (p3 y h x (by simp))
              rw [o.ir] at this
              cases this
            · rw [List.mem_singleton.mp h, o.ir] at hxy
              cases hxy
        rcases List.mem_append.mp (h2 y (by simp)) with h | h
        · refine .inl ⟨h1, fun x hx => ?_⟩
          rcases List.mem_append.mp hx with hx | hx
          · exact hs x hx
          · rw [List.mem_singleton.mp hx]; exact h
        · rw [List.mem_singleton.mp h]
          exact .inr (List.mem_map.mpr ⟨s, (ih p1 s).mpr ⟨q1, hs⟩, rfl⟩)
theorem sets_len (ns : List α) : (setsU ns).length = 2 ^ ns.length := by
  refine snoc_ind (P := fun ns => (setsU ns).length = 2 ^ ns.length) rfl (fun ns n ih => ?_) ns
  rw [sets_snoc, List.length_append, List.length_map, ih, List.length_append, List.length_singleton, Nat.pow_succ]
  omega
theorem asc_len (o : Ord1 lt) : ∀ {t ns : List α}, Asc lt t → (∀ x ∈ t, x ∈ ns) → t.length ≤ ns.length := by
  intro t ns ht h
  have hnd : t.Nodup := ht.imp fun {a b} k e => by subst e; rw [o.ir] at k; cases k
  exact hnd.length_le_of_subset h
variable (enc : α → PyData)
structure EncOk (lt : α → α → Bool) (enc : α → PyData) : Prop where
  al : ∀ x y, PySem.W.alike (enc x) (enc y) = true
  lt : ∀ x y, lt x y = true → PySem.W.dataLt (enc x) (enc y) = true ∧ PyData.eqv (enc x) (enc y) = false
  eq : ∀ x, PyData.eqv (enc x) (enc x) = true
  tk : ∃ f : α → Int ⊕ List Nat, (∀ x, PySem.W.keyToks (enc x) = [f x]) ∧ ∀ x y, f x = f y → x = y
  dp : ∀ x, (enc x).depth = 0
variable {enc}
theorem al_all (E : EncOk lt enc) : ∀ a b : List α, PySem.W.alikeAll (a.map enc) (b.map enc) = true
  | [], _ => by simp [PySem.W.alikeAll]
  | _ :: _, [] => by simp [PySem.W.alikeAll]
  | x :: a, y :: b => by
    rw [List.map_cons, List.map_cons, PySem.W.alikeAll, al_all E a b, E.al]
    rfl
end
def strLt (a b : Str) : Bool := decide (a.cps.toList < b.cps.toList)
theorem str_ord : Ord1 strLt where
  tr := fun a b c h k => by
    unfold strLt at *
    exact decide_eq_true (List.lt_trans (of_decide_eq_true h) (of_decide_eq_true k))
  ir := fun a => by
    unfold strLt
    exact decide_eq_false (List.lt_irrefl _)
theorem str_enc : EncOk strLt PyData.str where
  al := fun x y => by simp [PySem.W.alike]
  lt := fun x y h => by
    rw [PySem.W.dataLt_str]
    refine ⟨h, ?_⟩
    simp only [PyData.eqv]
    refine decide_eq_false fun e => ?_
    subst e
    rw [str_ord.ir] at h
    cases h
  eq := fun x => by simp [PyData.eqv]
  tk := ⟨fun x => .inr x.cps.toList, fun x => by simp [PySem.W.keyToks], fun x y h => str_ext (by simpa using h)⟩
  dp := fun x => by simp [PyData.depth]
def nsD (t : List Str) : Dt := .tup (t.map .str)
theorem ns_of (t : List Str) : PyOf (nsD t) (.tuple (t.map .str)) := by
  refine .tup ?_
  induction t with
  | nil => exact .nil
  | cons a t ih => exact .cons (.str _) ih
abbrev ascN (t : List Str) : Prop := Asc strLt t
theorem asc_names {l : Lst} (hl : LOk l) : ascN (l.map (·.1)) := hl.nd.imp fun {a b} h => decide_eq_true h
end SP
namespace DD
open PySem PySem.Spec PyProof.Rows L2
def gEqLO (neg : Bool) : G2 := fun x y st ok => match y with
  | .dat e => withL x st fun xs => ∃ (β : Type) (bs : List β) (f : β → Dt) (enc : β → PyData) (q : PyData), xs = bs.map (fun b => Sv.dat (f b)) ∧ (∀ b, PyOf (f b) (enc b)) ∧ PyOf e q ∧ SeqAt.shaped (.list (bs.map enc)) = true ∧ SeqAt.shaped q = true ∧
    ok (.dat (.bl (if neg then !PyData.eqv (.list (bs.map enc)) q else PyData.eqv (.list (bs.map enc)) q))) st
  | _ => False
theorem lr_eqLO {K : PySem.W.Frag} : LR2 K (rEqD K) (gEqLO false) := by
  intro x y st I H ok Q v w wd ix iy h c
  cases iy with
  | own p => exact h.elim
  | dat hy =>
    unfold gEqLO at h
    dsimp only at h
    obtain ⟨a, vs, xs, rfl, hs, hp, β, bs, f, enc, q, rfl, hf, hq, h1, h2, h⟩ := withL_rd wd ix h
    exact ⟨.list (bs.map enc), q, .lst hs (dps_of wd hf (paired_map_l hp)), hq.dp wd hy, h1, h2, c.now wd h (.dat (.bl _))⟩
end DD
namespace SP
open PySem PySem.Spec PyProof.Rows L2 DD
abbrev subsN (ns : List Str) (n : Nat) : List (List Str) := subsU strLt ns n
structure In (l : Lst) (t : List Str) : Prop where
  asc : ascN t
  mem : ∀ n ∈ t, n ∈ l.map (·.1)
theorem In.look {l : Lst} (hl : LOk l) {t : List Str} (h : In l t) {n : Str} (hn : n ∈ t) : ∃ s, (n, s) ∈ l ∧ SP.look l n = some s := by
  obtain ⟨⟨m, s⟩, hx, rfl⟩ := List.mem_map.mp (h.mem n hn)
  exact ⟨s, hx, hl.get hx⟩
theorem look_in {α : Type} {p : List (Str × α)} {n : Str} {x : α} (h : look p n = some x) : (n, x) ∈ p := by
  unfold look at h
  cases hf : p.find? fun x => decide (x.1 = n) with
  | none => rw [hf] at h; cases h
  | some y =>
    rw [hf] at h
    cases h
    have h1 := List.find?_some hf
    have h2 := List.mem_of_find?_eq_some hf
    rw [← of_decide_eq_true h1]
    exact h2
theorem allD_map (ds : List Dt) : allD? (ds.map Sv.dat) = some ds := by
  induction ds with
  | nil => rfl
  | cons d ds ih =>
    rw [List.map_cons]
    show (allD? (ds.map Sv.dat)).map (d :: ·) = _
    rw [ih]
    rfl
theorem atI_end {α : Type} (xs : List α) (x : α) : atI (xs ++ [x]) (-1) = some x := by
  have e : ixN (xs ++ [x]).length (-1) = some xs.length := by
    rw [List.length_append, List.length_singleton]
    unfold ixN
    split
    · omega
    · split
      · congr 1; omega
      · omega
  unfold atI
  rw [e]
  simp
theorem all_at {xs : List Sv} {ds : List Dt} {F : List Dt → Prop} (h : allD? xs = some ds) (k : F ds) : match allD? xs with
    | some ds => F ds
    | none => False := by
  rw [h]
  exact k
theorem j2_len {α β : Type} {as : List α} {bs : α → List β} {f : α → β → Option Dt} {st st' : Store} {i j : Nat} {a : α} {acc : List Sv} (ha : as[i]? = some a) (h : J2i as bs f st i a j acc st') : acc.length ≤ (as.flatMap fun a => (bs a).filterMap (f a)).length := by
  obtain ⟨hi, rfl⟩ := List.getElem?_eq_some_iff.mp ha
  rw [h.2]
  have e : as = as.take i ++ as[i] :: as.drop (i + 1) := by
    rw [List.getElem_cons_drop, List.take_append_drop]
  have e2 : (as.flatMap fun a => (bs a).filterMap (f a)).length = ((as.take i ++ as[i] :: as.drop (i + 1)).flatMap fun a => (bs a).filterMap (f a)).length := by rw [← e]
  rw [e2, List.flatMap_append, List.flatMap_cons]
  have h3 := ((List.take_sublist j (bs as[i])).filterMap (f as[i])).length_le
  simp only [List.length_map, List.length_append] at *
  omega
theorem lv_next (ns : List Str) (m : Nat) : ((lvU strLt ns m).flatMap fun t => ns.filterMap fun i => (growF strLt t i).map nsD) = (lvU strLt ns (m + 1)).map nsD := by
  show _ = ((lvU strLt ns m).flatMap fun t => ns.filterMap (growF strLt t)).map nsD
  rw [List.map_flatMap]
  congr 1
  funext t
  rw [List.map_filterMap]
end SP
namespace SP
open PySem PySem.Spec PyProof.Rows L2 DD
end SP
namespace SP
open PySem PySem.Spec PyProof.Rows L2 DD
end SP
namespace UU
open PySem PySem.Spec PyProof.Rows L2 DD
section
variable {P : Program} {w : World} {A : Around} {E : Value → Shared → Prop} {s : Shared}
abbrev TupAt (P : Program) (w : World) (h : Heap) (k : List Key) (b : Addr) : Prop := IsTupleKey (mixKind P w) h k b
abbrev tkh (P : Program) (w : World) (k : List Key) : Int := tupleKeyHash (mixKind P w) k
theorem item_shape {k : List Key} {vs : List Value} (h : ItemsAre (mixKind P w) k vs) : ∀ v ∈ vs, ∀ n, ofAClassStatement n v = pure false ∧ ∃ r, hashByValue n v = pure r := by
  induction h with
  | nil => intro v hv; cases hv
  | cons h1 _ ih =>
    intro v hv n
    rcases List.mem_cons.mp hv with rfl | hv
    · rcases keyIs_shape h1 with ⟨i, u, rfl, rfl⟩ | ⟨x, u, rfl, rfl⟩
      · exact ⟨by cases n <;> rfl, true, by cases n <;> rfl⟩
      · exact ⟨by cases n <;> rfl, false, by cases n <;> rfl⟩
    · exact ih v hv n
theorem no_class {k : List Key} {b : Addr} {Q : Bool → Shared → Prop} (x : TupAt P w s.heap k b) (q : Q false s) : wpAny (model P w) A (ofAClassStatement 8 (.ref b)) Q E s := by
  have ty := x.typeIs
  obtain ⟨o, us, n, ho, _, hd, hi⟩ := x
  have sh := item_shape hi
  unfold ofAClassStatement
  refine wpAny_bind (wpAny_typeOf ty ?_)
  dsimp only
  have e : (("tuple" : String) == "tuple") = true := by decide
  simp only [e, if_true, Bool.not_true, Bool.false_eq_true, if_false]
  try refine wpAny_bind (wpAny_pure ?_)
  try simp only [Bool.not_true, Bool.false_eq_true, if_false]
  show wpAny _ _ (seqItems? (.ref b) >>= _) _ _ s
  refine wpAny_bind (wpAny_seqItems ho hd ?_)
  dsimp only
  refine wpAny_bind ?_
  show wpAny _ _ (forIn us _ _) _ _ s
  rw [← Array.forIn_toList]
  have inv0 : (none : Option Bool) = none ∧ s = s ∧ ∀ v ∈ us.toList, ofAClassStatement 7 v = pure false := ⟨rfl, rfl, fun v hv => (sh v hv 7).1⟩
  refine wpAny_forIn_list _ (fun left acc s1 => acc.1 = none ∧ s1 = s ∧ ∀ v ∈ left, ofAClassStatement 7 v = pure false) _ ?_ ?_ _ _ inv0
  · rintro v left acc s1 ⟨ha, rfl, hl⟩
    rw [hl v List.mem_cons_self]
    refine wpAny_bind (wpAny_pure ?_)
    simp only [Bool.false_eq_true, if_false]
    exact wpAny_pure ⟨rfl, rfl, fun u hu => hl u (List.mem_cons_of_mem _ hu)⟩
  · rintro ⟨a1, a2⟩ s1 ⟨ha, rfl, -⟩
    have ha : a1 = none := ha
    subst ha
    exact wpAny_pure q
theorem some_hash {k : List Key} {b : Addr} {Q : Bool → Shared → Prop} (x : TupAt P w s.heap k b) (q : ∀ r, Q r s) : wpAny (model P w) A (hashByValue 8 (.ref b)) Q E s := by
  have ty := x.typeIs
  obtain ⟨o, us, n, ho, _, hd, hi⟩ := x
  have sh := item_shape hi
  unfold hashByValue
  refine wpAny_bind (wpAny_specialOf ty F.slot_tuple_hash.lookup ?_)
  show wpAny _ _ (seqItems? (.ref b) >>= _) _ _ s
  refine wpAny_bind (wpAny_seqItems ho hd ?_)
  refine wpAny_bind ?_
  show wpAny _ _ (forIn us _ _) _ _ s
  rw [← Array.forIn_toList]
  refine wpAny_forIn_list _ (fun left acc s1 => s1 = s ∧ ∀ v ∈ left, ∃ r, hashByValue 7 v = pure r) _ ?_ ?_ _ _ ⟨rfl, fun v hv => (sh v hv 7).2⟩
  · rintro v left acc s1 ⟨rfl, hl⟩
    obtain ⟨r, e⟩ := hl v List.mem_cons_self
    rw [e]
    refine wpAny_bind (wpAny_pure ?_)
    cases r with
    | true =>
      simp only [Bool.not_true, Bool.false_eq_true, if_false]
      exact wpAny_pure ⟨rfl, fun u hu => hl u (List.mem_cons_of_mem _ hu)⟩
    | false =>
      simp only [Bool.not_false, if_true]
      refine wpAny_pure ?_
      exact wpAny_pure (q false)
  · rintro ⟨a1, a2⟩ s1 ⟨rfl, -⟩
    cases a1 with
    | none => exact wpAny_pure (q true)
    | some r => exact wpAny_pure (q r)
/-- nobody sees the search -/
theorem unseen {k : List Key} {b : Addr} {Q : Bool → Shared → Prop} (x : TupAt P w s.heap k b) {ys : List Value} (hy : ∀ y ∈ ys, ∃ k' c, y = Value.ref c ∧ TupAt P w s.heap k' c) (q : Q false s) :
    wpAny (model P w) A (searchCouldBeSeen (.ref b) ys) Q E s := by
  unfold searchCouldBeSeen
  refine wpAny_bind (wpAny_forIn_list _ (fun left acc s1 => acc.1 = none ∧ s1 = s ∧ ∀ y ∈ left, ∃ k' c, y = Value.ref c ∧ TupAt P w s.heap k' c) _ ?_ ?_ _ _ ⟨rfl, rfl, hy⟩)
  · rintro v left acc s1 ⟨ha, rfl, hl⟩
    obtain ⟨k', c, rfl, hc⟩ := hl v List.mem_cons_self
    have more : ∀ y ∈ left, ∃ k' c, y = Value.ref c ∧ TupAt P w s1.heap k' c := fun y h => hl y (List.mem_cons_of_mem _ h)
    dsimp only
    rcases Bool.eq_false_or_eq_true (b == c || (carriedByValue (.ref b) && carriedByValue (.ref c))) with e | e
    · exact wp_if_pos e (wpAny_pure ⟨rfl, rfl, more⟩)
    · refine wp_if_neg (by rw [e]; decide) ?_
      refine wpAny_bind (wpAny_eqIsQuiet_tuple x ?_)
      simp only [Bool.not_true, Bool.false_eq_true, if_false]
      refine wpAny_bind (wpAny_eqIsQuiet_tuple hc ?_)
      simp only [Bool.not_true, Bool.false_eq_true, if_false]
      refine wpAny_bind (no_class x ?_)
      simp only [Bool.false_eq_true, if_false]
      refine wpAny_bind (no_class hc ?_)
      simp only [Bool.false_eq_true, if_false]
      exact wpAny_pure ⟨rfl, rfl, more⟩
  · rintro ⟨a1, a2⟩ s1 ⟨ha, rfl, -⟩
    have ha : a1 = none := ha
    subst ha
    exact wpAny_pure q
def Ent (P : Program) (w : World) (Z : List Key → Addr → Prop) (h : Heap) (k : List Key) (e : Int × Value) : Prop := ∃ b, e = (tkh P w k, .ref b) ∧ TupAt P w h k b ∧ Z k b
structure Rws (P : Program) (w : World) (Z : List Key → Addr → Prop) (h : Heap) (a : Addr) (ks : List (List Key)) (es : Array (Int × Value)) (ep : Nat) (t : SetTable) : Prop where
  obj : ∃ o, h.get? a = some o ∧ o.ExactSet ∧ o.data = .set es ep t
  ent : Paired (Ent P w Z h) ks es.toList
  tab : TabOk t (ks.map (tkh P w))
  nd : ks.Nodup
  room : ks.length * 5 < t.mask * 3
  few : ks.length < 64
variable {Z : List Key → Addr → Prop} {a : Addr} {ks : List (List Key)} {es : Array (Int × Value)} {ep : Nat} {t : SetTable}
theorem ents_size {h : Heap} (r : Paired (Ent P w Z h) ks es.toList) : es.size = ks.length := by
  rw [paired_len r, Array.length_toList]
theorem fits_of {n m : Nat} (hd : t.dummies = #[]) (hp : t.place.size = n) (hm : n ≤ t.mask) : t.fits n = true := by
  unfold SetTable.fits SetTable.fill
  rw [hd, Bool.and_eq_true, beq_iff_eq, decide_eq_true_eq]
  show t.place.size = n ∧ t.place.size + 0 ≤ t.mask
  omega
theorem Rws.pl (R : Rws P w Z s.heap a ks es ep t) : t.place.size = ks.length := by
  rw [R.tab.sz, List.length_map]
theorem Rws.fits (R : Rws P w Z s.heap a ks es ep t) : t.fits es.size = true := by
  have := R.room
  have := ents_size R.ent
  exact fits_of (m := 0) R.tab.dm (by rw [R.pl]; omega) (by omega)
theorem Rws.at (R : Rws P w Z s.heap a ks es ep t) {i : Nat} {k : List Key} (h : ks[i]? = some k) : ∃ b, es[i]? = some (tkh P w k, .ref b) ∧ TupAt P w s.heap k b := by
  obtain ⟨e, he, b, rfl, hb⟩ := DD.paired_at R.ent h
  exact ⟨b, by rw [← Array.getElem?_toList]; exact he, hb.1⟩
theorem Rws.back (R : Rws P w Z s.heap a ks es ep t) {i j : Nat} (h : t.place.toList[i]? = some j) : ∃ k, ks[i]? = some k := by
  have h1 : i < t.place.toList.length := (List.getElem?_eq_some_iff.mp h).1
  rw [Array.length_toList, R.pl] at h1
  exact ⟨ks[i], List.getElem?_eq_getElem h1⟩
/-- the i-th probe of the way of k -/
abbrev stp (t : SetTable) (h : Int) (c : Nat) : SetTable.Probe := nth t.mask (runAt t.mask (SetTable.bits h % (t.mask + 1)) (SetTable.bits h)) c
theorem stp_dummy (t : SetTable) (h : Int) (c : Nat) : (stp t h c).dummy = none := by
  have go : ∀ (n : Nat) (p : SetTable.Probe), p.dummy = none → (nth t.mask p n).dummy = none := by
    intro n
    induction n with
    | zero => exact fun p e => e
    | succ n ih =>
      intro p e
      refine ih (adv t.mask p) ?_
      unfold adv
      split <;> exact e
  exact go c _ rfl
theorem stp_add (t : SetTable) (h : Int) (c q : Nat) : nth t.mask (stp t h c) q = stp t h (c + q) := (nth_add t.mask c _ q).symm
/-- k was not passed on the first c steps of its way -/
def Fresh (P : Program) (w : World) (ks : List (List Key)) (t : SetTable) (k : List Key) (c : Nat) : Prop := ∀ i : Nat, ks[i]? = some k → ∀ c' : Nat, c' < c → t.place.toList[i]? ≠ some (way t.mask (tkh P w k) c')
theorem look_for (R : Rws P w Z s.heap a ks es ep t) {x : Addr} {k : List Key} (hx : TupAt P w s.heap k x) (hu : A.units < cLine) {K : Nat} (hKf : K < 10 * SetTable.turns t.mask)
    (hK : way t.mask (tkh P w k) K ∉ t.place.toList) (hKb : ∀ c, c < K → way t.mask (tkh P w k) c ∈ t.place.toList) {Q : SetFound → Shared → Prop}
    (yes : k ∈ ks → Q (.there none) s) (no : k ∉ ks → Q (.free (way t.mask (tkh P w k) K) false) s) (fuel c : Nat) (stand : Option SetTable.Probe) (hst : stand.getD (t.probeStart (tkh P w k)) = stp t (tkh P w k) c) (hc : c ≤ K) (hf : K - c < fuel) (fr : Fresh P w ks t k c) :
    wpAny (model P w) A (setSearchFrom a (.ref x) (tkh P w k) true fuel stand) Q E s := by
  induction fuel generalizing c stand with
  | zero => exact absurd hf (Nat.not_lt_zero _)
  | succ fuel ih =>
    obtain ⟨o, ho, hex, hd⟩ := R.obj
    have gw : ¬ t.gaveWay = true := by
      unfold SetTable.gaveWay
      rw [mask_odd R.tab.mok]
      decide
    rw [setSearchFrom_succ]
    refine wpAny_bind (wpAny_setState_of ho hd R.fits ?_)
    dsimp only
    refine wp_if_neg gw ?_
    try refine wpAny_bind (wpAny_pure ?_)
    have hashes : ∀ (i : Nat) (k' : List Key), ks[i]? = some k' → (es[i]?.map fun e => e.1).getD 0 = tkh P w k' := fun i k' hi => by
      obtain ⟨b, e, _⟩ := R.at hi
      rw [e]
      rfl
    have wj : ∀ q, (nth t.mask (stp t (tkh P w k) c) q).j = way t.mask (tkh P w k) (c + q) := fun q => by rw [stp_add]
    have spec := go_spec t R.tab.ris R.tab.dm (fun i => (es[i]?.map (·.1)).getD 0) (tkh P w k) (10 * SetTable.turns t.mask) (K - c) (stp t (tkh P w k) c) (stp_dummy t _ c) (by omega)
      (fun q hq => by rw [wj]; exact hKb (c + q) (by omega)) (by rw [wj, Nat.add_sub_cancel' hc]; exact hK)
    rcases spec with ⟨q, i, hq, hi, _, miss, pr⟩ | ⟨miss, pr⟩
    · rw [wj] at hi pr
      rw [stp_add] at pr
      have pr' : t.probe (fun i => (es[i]?.map (·.1)).getD 0) (tkh P w k) (stand.getD (t.probeStart (tkh P w k))) = some (.candidate (way t.mask (tkh P w k) (c + q)) i (stp t (tkh P w k) (c + (q + 1)))) := by
        rw [hst]
        exact pr
      rw [pr']
      dsimp only
      obtain ⟨k2, hk2⟩ := R.back hi
      obtain ⟨b, he, hb⟩ := R.at hk2
      have cmp : wpAny (model P w) A (searchRest a (.ref x) (tkh P w k) true fuel es t (way t.mask (tkh P w k) (c + q)) i (stp t (tkh P w k) (c + (q + 1)))) Q E s := by
        unfold searchRest
        rw [he]
        dsimp only
        refine wpAny_bind (wpAny_holding (wpAny_eqBool_tuple hu hb hx ?_))
        refine wpAny_bind (wpAny_setState_of ho hd R.fits ?_)
        dsimp only
        by_cases same : k2 = k
        · subst same
          refine wp_if_pos (by simp) (wpAny_pure (yes (List.mem_of_getElem? hk2)))
        · refine wp_if_neg (by simp [same]) ?_
          try refine wpAny_bind (wpAny_pure ?_)
          have sl : t.slot (way t.mask (tkh P w k) (c + q)) = .live i := slot_live R.tab.ris hi
          rw [sameMem]
          dsimp only
          simp only [if_true, sl, he]
          refine wpAny_bind (wpAny_isSame_ref_self (wpAny_bind (wpAny_pure ?_)))
          simp only [if_true]
          refine wp_if_neg (by simp [same]) ?_
          refine ih (c + (q + 1)) _ rfl (by omega) (by omega) fun i0 h0 c' hc' z => ?_
          rcases Nat.lt_or_ge c' c with h1 | h1
          · exact fr i0 h0 c' h1 z
          · rcases Nat.lt_or_ge (c' - c) q with h2 | h2
            · refine miss (c' - c) i0 h2 ?_ (hashes i0 k h0)
              rw [wj, Nat.add_sub_cancel' h1]
              exact z
            · have e : c' = c + q := by omega
              subst e
              have s0 := slot_live R.tab.ris z
              rw [sl] at s0
              injection s0 with s0
              subst s0
              rw [hk2] at h0
              exact same (Option.some.inj h0)
      rcases Bool.eq_false_or_eq_true t.led with hl | hl
      · refine wp_if_neg (by simp [hl]) ?_
        try refine wpAny_bind (wpAny_pure ?_)
        exact cmp
      · refine wp_if_pos (by simp [hl]) ?_
        refine wpAny_bind (unseen hx (fun y hy => ?_) ?_)
        · obtain ⟨e, he1, rfl⟩ := List.mem_map.mp hy
          have he2 : e ∈ es.toList := by
            have := he1
            simp only [Array.mem_toList_iff, Array.mem_filter] at this ⊢
            exact this.1
          obtain ⟨n, hn⟩ := List.getElem?_of_mem he2
          obtain ⟨k3, _, b3, rfl, hb3⟩ := DD.paired_back R.ent hn
          exact ⟨k3, b3, rfl, hb3.1⟩
        · refine wp_if_neg (by decide) ?_
          try refine wpAny_bind (wpAny_pure ?_)
          exact cmp
    · rw [wj, Nat.add_sub_cancel' hc] at pr
      have pr' : t.probe (fun i => (es[i]?.map (·.1)).getD 0) (tkh P w k) (stand.getD (t.probeStart (tkh P w k))) = some (.empty (way t.mask (tkh P w k) K) none) := by
        rw [hst]
        exact pr
      rw [pr']
      dsimp only
      refine wpAny_pure (no fun hm => ?_)
      obtain ⟨i0, h0⟩ := List.getElem?_of_mem hm
      have hil : i0 < t.place.toList.length := by
        have := (List.getElem?_eq_some_iff.mp h0).1
        rw [Array.length_toList, R.pl]
        exact this
      have hj := List.getElem?_eq_getElem hil
      obtain ⟨c', c1, c2⟩ := R.tab.before hK (show (ks.map (tkh P w))[i0]? = some (tkh P w k) by rw [List.getElem?_map, h0]; rfl) hj
      rw [← c2] at hj
      rcases Nat.lt_or_ge c' c with h1 | h1
      · exact fr i0 h0 c' h1 hj
      · refine miss (c' - c) i0 (by omega) ?_ (hashes i0 k h0)
        rw [wj, Nat.add_sub_cancel' h1]
        exact hj
end
end UU
namespace UU
open PySem PySem.Spec PyProof.Rows L2 DD
section
variable {P : Program} {w : World} {A : Around} {E : Value → Shared → Prop} {s : Shared}
theorem tup_stays {h h' : Heap} {k : List Key} {a b : Addr} {o : Obj} {es : Array (Int × Value)} {ep : Nat} {t : SetTable} (x : TupAt P w h k b) (ho : h.get? a = some o) (hd : o.data = .set es ep t) (sb : Heap.SameBut a h h') : TupAt P w h' k b := by
  obtain ⟨ob, us, n, h1, h2, h3, h4⟩ := x
  refine ⟨ob, us, n, (sb.2 b fun e => ?_).trans h1, h2, h3, h4⟩
  subst e
  rw [ho] at h1
  cases h1
  rw [hd] at h3
  cases h3
theorem ent_stays {Z : List Key → Addr → Prop} {h h' : Heap} {a : Addr} {o : Obj} {es : Array (Int × Value)} {ep : Nat} {t : SetTable} (ho : h.get? a = some o) (hd : o.data = .set es ep t) (sb : Heap.SameBut a h h') {ks : List (List Key)} {l : List (Int × Value)} (r : Paired (Ent P w Z h) ks l) : Paired (Ent P w Z h') ks l :=
  paired_mono (fun k e ⟨b, he, hb, hz⟩ => ⟨b, he, tup_stays hb ho hd sb, hz⟩) r
theorem pick_paired {α β : Type} {F : α → β → Prop} {xs : List α} {ys : List β} (r : Paired F xs ys) : ∀ l : List Nat, Paired F (l.filterMap fun i => xs[i]?) (l.filterMap fun i => ys[i]?)
  | [] => .nil
  | i :: l => by
    have ih := pick_paired r l
    cases e : xs[i]? with
    | none =>
      have e2 : ys[i]? = none := by
        rw [List.getElem?_eq_none_iff] at e ⊢
        rw [← DD.paired_len r]
        exact e
      rw [List.filterMap_cons_none e, List.filterMap_cons_none e2]
      exact ih
    | some x =>
      obtain ⟨y, e2, hf⟩ := DD.paired_at r e
      rw [List.filterMap_cons_some e, List.filterMap_cons_some e2]
      exact .cons hf ih
theorem pick_all {α : Type} (xs : List α) : (List.range xs.length).filterMap (fun i => xs[i]?) = xs := by
  have h : ∀ (zs : List α) (ys : List α), (List.range zs.length).filterMap (fun i => (zs ++ ys)[i]?) = zs := by
    intro zs
    have : ∀ n (zs : List α), zs.length = n → ∀ ys, (List.range zs.length).filterMap (fun i => (zs ++ ys)[i]?) = zs := by
      intro n
      induction n with
      | zero => intro zs hz ys; rw [List.length_eq_zero_iff.mp hz]; rfl
      | succ n ih =>
        intro zs hz ys
        rcases List.eq_nil_or_concat zs with rfl | ⟨us, x, rfl⟩
        · cases hz
        · rw [List.concat_eq_append] at *
          have hu : us.length = n := by
            rw [List.length_append] at hz
            simpa using hz
          have h1 := ih us hu ([x] ++ ys)
          rw [List.append_assoc, List.length_append, List.length_singleton, List.range_succ, List.filterMap_append, h1]
          congr 1
          rw [List.filterMap_cons_some (b := x) (by simp)]
          rfl
    exact this zs.length zs rfl
  have := h xs []
  simpa using this
theorem pick_perm {α : Type} {xs : List α} {l : List Nat} (hp : l.Perm (List.range xs.length)) : (l.filterMap fun i => xs[i]?).Perm xs := by
  have h1 := hp.filterMap (fun i => xs[i]?)
  rw [pick_all] at h1
  exact h1
theorem pick_map {α β : Type} (f : α → β) (xs : List α) (ys : Array β) (d : β) (hy : ∀ (i : Nat) x, xs[i]? = some x → ys[i]? = some (f x)) : ∀ l : List Nat, (∀ i ∈ l, i < xs.length) → (l.filterMap fun i => xs[i]?).map f = l.map fun i => ys.getD i d
  | [], _ => rfl
  | i :: l, hl => by
    have hi := hl i List.mem_cons_self
    have e := List.getElem?_eq_getElem hi
    rw [List.filterMap_cons_some e, List.map_cons, List.map_cons, pick_map f xs ys d hy l fun j hj => hl j (List.mem_cons_of_mem _ hj)]
    have e2 := hy i _ e
    rw [Array.getD_eq_getD_getElem?, e2]
    rfl
theorem lay_anew {Z : List Key → Addr → Prop} {a : Addr} {ks : List (List Key)} {es : Array (Int × Value)} {ep : Nat} {t : SetTable} {o : Obj} (ho : s.heap.get? a = some o) (hex : o.ExactSet) (hd : o.data = .set es ep t) (r : Paired (Ent P w Z s.heap) ks es.toList) (T : TabOk t (ks.map (tkh P w))) (nd : ks.Nodup) (few : ks.length < 64) (hfl : ks.length ≤ t.mask) {wanted M : Nat}
    (hw : SetTable.sizeAbove wanted - 1 = M) (hM : MaskOk M) (hw2 : SetTable.sizeAbove wanted ≤ 128) (hn : ks.length * 5 < M * 3) {Q : Unit → Shared → Prop}
    (q : ∀ h' ks' es' ep' t', Heap.SameBut a s.heap h' → Rws P w Z h' a ks' es' ep' t' → ks'.Perm ks → Q () { s with heap := h' }) : wpAny (model P w) A (setRelay a wanted) Q E s := by
  have hsz := ents_size r
  have hpl : t.place.size = es.size := by rw [T.sz, List.length_map, hsz]
  obtain ⟨t', order, e, hp, T', em, _, _, _⟩ := relaid_ok t (hs := es.map (·.1)) (wanted := wanted) hw hM (by rw [Array.size_map, hsz]; omega)
  rw [Array.size_map, hsz] at hp
  have r' := pick_paired r order.toList
  have hl : (order.filterMap (es[·]?)).toList = order.toList.filterMap fun i => es.toList[i]? := by
    rw [Array.toList_filterMap]
    congr 1
    funext i
    exact (Array.getElem?_toList).symm
  rw [← hl] at r'
  have pm := pick_perm (xs := ks) hp
  have hs2 : (order.filterMap (es[·]?)).size = es.size := by rw [ents_size r', pm.length_eq, hsz]
  rw [← pick_map (tkh P w) ks (es.map (·.1)) 0 (fun i k hk => by
    obtain ⟨y, hy, b, rfl, _⟩ := DD.paired_at r hk
    rw [Array.getElem?_map, ← Array.getElem?_toList, hy]
    rfl) order.toList (fun i hi => List.mem_range.mp (hp.mem_iff.mp hi))] at T'
  rw [setRelay_eq]
  refine wpAny_bind (wpAny_setState_of ho hd (fits_of (m := 0) T.dm hpl (by omega)) ?_)
  dsimp only
  refine wp_if_neg (by rw [sizeLine_eq]; omega) ?_
  try refine wpAny_bind (wpAny_pure ?_)
  rw [e]
  dsimp only
  refine wpAny_bind ?_
  refine wp_if_neg (by rw [hs2]; simp) ?_
  try refine wpAny_bind (wpAny_pure ?_)
  refine wpAny_pure ?_
  dsimp only
  refine wpAny_storeSet_of ho hd ?_ (by rw [hs2, hsz, sizeLine_eq]; omega)
  have sb : Heap.SameBut a s.heap (s.heap.update a (Obj.putSet (order.filterMap (es[·]?)) t')) := Heap.SameBut.update ..
  refine q _ _ _ (ep + 1) t' sb ⟨⟨_, store_at ho hd, ⟨hex.1, hex.2.1, hex.2.2⟩, rfl⟩, ent_stays ho hd sb r', T', pm.nodup_iff.mpr nd, ?_, by rw [pm.length_eq]; exact few⟩ pm
  rw [pm.length_eq, em]
  exact hn
end
end UU
namespace UU
open PySem PySem.Spec PyProof.Rows L2 DD
section
variable {P : Program} {w : World} {A : Around} {E : Value → Shared → Prop} {s : Shared}
variable {Z : List Key → Addr → Prop} {a : Addr} {ks : List (List Key)} {es : Array (Int × Value)} {ep : Nat} {t : SetTable}
theorem look_whole (R : Rws P w Z s.heap a ks es ep t) {x : Addr} {k : List Key} (hx : TupAt P w s.heap k x) (hu : A.units < cLine) {Q : SetFound → Shared → Prop} (yes : k ∈ ks → Q (.there none) s)
    (no : ∀ K, k ∉ ks → way t.mask (tkh P w k) K ∉ t.place.toList → (∀ c, c < K → way t.mask (tkh P w k) c ∈ t.place.toList) → Q (.free (way t.mask (tkh P w k) K) false) s) :
    wpAny (model P w) A (setSearch a (.ref x) (tkh P w k) true) Q E s := by
  have hr := R.room
  obtain ⟨K, k1, k2, k3⟩ := R.tab.first (by rw [List.length_map]; omega) (tkh P w k)
  have kb : K < 100000 := by
    have : 10 * SetTable.turns t.mask ≤ 1420 := by
      unfold SetTable.turns
      rcases R.tab.mok with e | e | e <;> omega
    omega
  unfold setSearch
  exact look_for R hx hu k1 k2 k3 yes (fun h => no K h k2 k3) 100000 0 none rfl (Nat.zero_le _) (by omega) fun i _ c' hc' => absurd hc' (Nat.not_lt_zero _)
theorem tab_plain {t t' : SetTable} {hs : List Int} (T : TabOk t hs) (h1 : t'.place = t.place) (h2 : t'.dummies = t.dummies) (h3 : t'.mask = t.mask) : TabOk t' hs :=
  ⟨by rw [h1]; exact T.ris, by rw [h2]; exact T.dm, by rw [h1]; exact T.sz, by rw [h3]; exact T.mok, by rw [h1, h3]; exact T.bd, by rw [h1, h3]; exact T.reach⟩
/-- what adding k leaves -/
def Adds (P : Program) (w : World) (Z : List Key → Addr → Prop) (s : Shared) (a : Addr) (ks : List (List Key)) (k : List Key) (q : Shared → Prop) : Prop :=
  ∀ h' ks' es' ep' t', Heap.SameBut a s.heap h' → Rws P w Z h' a ks' es' ep' t' → (∀ j, j ∈ ks' ↔ j = k ∨ j ∈ ks) → ks'.length ≤ ks.length + 1 → q { s with heap := h' }
/-- the new entry is laid, its table t2 but for the mark of plainness -/
theorem lay_row (R : Rws P w Z s.heap a ks es ep t) {x : Addr} {k : List Key} (hx : TupAt P w s.heap k x) (hz : Z k x) (hk : k ∉ ks) (hfew : ks.length + 1 < 64) {t2 : SetTable} {p : Nat} (hp : p ≤ ks.length) (T2 : TabOk t2 ((ks.map (tkh P w)).take p ++ tkh P w k :: (ks.map (tkh P w)).drop p)) (hm : t2.mask = t.mask)
    {Q : Bool → Shared → Prop} (q : Adds P w Z s a ks k (Q true)) :
    wpAny (model P w) A (do
      storeSet a (SetTable.insertAt es p (tkh P w k, .ref x)) t2
      if t2.tooFull then setRelay a (SetTable.grown (es.size + 1))
      return true) Q E s := by
  obtain ⟨o, ho, hex, hd⟩ := R.obj
  have hsz := ents_size R.ent
  have hr := R.room
  have r1 : Paired (Ent P w Z s.heap) (ks.take p ++ k :: ks.drop p) (SetTable.insertAt es p (tkh P w k, .ref x)).toList := by
    rw [SetTable.toList_insertAt]
    exact DD.paired_app (DD.paired_take R.ent p) (.cons ⟨x, rfl, hx, hz⟩ (DD.paired_drop R.ent p))
  have T3 : TabOk t2 ((ks.take p ++ k :: ks.drop p).map (tkh P w)) := by
    rw [List.map_append, List.map_cons, List.map_take, List.map_drop]
    exact T2
  have pm : (ks.take p ++ k :: ks.drop p).Perm (k :: ks) := by
    have h := @List.perm_middle _ k (ks.take p) (ks.drop p)
    rw [List.take_append_drop] at h
    exact h
  generalize ks.take p ++ k :: ks.drop p = ks1 at r1 T3 pm
  generalize SetTable.insertAt es p (tkh P w k, .ref x) = es1 at r1 ⊢
  have hl : ks1.length = ks.length + 1 := pm.length_eq
  have hes := ents_size r1
  have nd1 : ks1.Nodup := pm.nodup_iff.mpr (List.nodup_cons.mpr ⟨hk, R.nd⟩)
  have hin : ∀ j, j ∈ ks1 ↔ j = k ∨ j ∈ ks := fun j => by rw [pm.mem_iff, List.mem_cons]
  refine wpAny_bind (wpAny_storeSet_of ho hd ?_ (by rw [hes, hl, sizeLine_eq]; omega))
  have sb : Heap.SameBut a s.heap (s.heap.update a (Obj.putSet es1 t2)) := Heap.SameBut.update ..
  have ho1 := store_at (es' := es1) (t' := t2) ho hd
  have r2 := ent_stays ho hd sb r1
  generalize s.heap.update a (Obj.putSet es1 t2) = h1 at sb ho1 r2 ⊢
  have hfull : t2.tooFull = decide ((ks.length + 1) * 5 ≥ t.mask * 3) := by
    unfold SetTable.tooFull SetTable.fill
    rw [T3.dm, T3.sz, List.length_map, hl, hm]
    rfl
  by_cases hf : (ks.length + 1) * 5 ≥ t.mask * 3
  · have go : ∀ M, SetTable.sizeAbove (SetTable.grown (ks.length + 1)) - 1 = M → MaskOk M → SetTable.sizeAbove (SetTable.grown (ks.length + 1)) ≤ 128 → (ks.length + 1) * 5 < M * 3 → wpAny (model P w) A (setRelay a (SetTable.grown (ks.length + 1))) (fun _ s' => wpAny (model P w) A (pure true) Q E s') E { s with heap := h1 } := by
      intro M m1 m2 m3 m4
      refine lay_anew (s := { s with heap := h1 }) ho1 ⟨hex.1, hex.2.1, hex.2.2⟩ rfl r2 T3 nd1 (by rw [hl]; exact hfew) (by rw [hl, hm]; omega) m1 m2 m3 (by rw [hl]; exact m4) ?_
      intro h2 ks2 es2 ep2 t4 sb2 R2 pm2
      exact wpAny_pure (q h2 ks2 es2 ep2 t4 (sb.trans sb2) R2 (fun j => by rw [pm2.mem_iff]; exact hin j) (by rw [pm2.length_eq, hl]; exact Nat.le_refl _))
    have two : (t.mask = 7 ∧ ks.length = 4) ∨ (t.mask = 31 ∧ ks.length = 18) := by
      rcases R.tab.mok with e | e | e
      · exact .inl ⟨e, by omega⟩
      · exact .inr ⟨e, by omega⟩
      · omega
    first
      | (refine wp_if_pos (by rw [hfull]; exact decide_eq_true hf) ?_; refine wpAny_bind ?_)
      | (refine wpAny_bind ?_; refine wp_if_pos (by rw [hfull]; exact decide_eq_true hf) ?_)
    rw [hsz]
    rcases two with ⟨_, e⟩ | ⟨_, e⟩
    · exact go 31 (by rw [e, size_20]) (.inr (.inl rfl)) (by rw [e, size_20]; decide) (by omega)
    · exact go 127 (by rw [e, size_76]) (.inr (.inr rfl)) (by rw [e, size_76]; decide) (by omega)
  · have fin : Q true { s with heap := h1 } := q h1 ks1 es1 (ep + 1) t2 sb ⟨⟨_, ho1, ⟨hex.1, hex.2.1, hex.2.2⟩, rfl⟩, r2, T3, nd1, by rw [hl, hm]; omega, by rw [hl]; exact hfew⟩ hin (by rw [hl]; exact Nat.le_refl _)
    first
      | exact wp_if_neg (by rw [hfull, decide_eq_false hf]; decide) (wpAny_pure fin)
      | (refine wpAny_bind ?_; exact wp_if_neg (by rw [hfull, decide_eq_false hf]; decide) (wpAny_pure (wpAny_pure fin)))
theorem add_row (R : Rws P w Z s.heap a ks es ep t) {x : Addr} {k : List Key} (hx : TupAt P w s.heap k x) (hz : Z k x) (hu : A.units < cLine) (hfew : ks.length + 1 < 64) {Q : Bool → Shared → Prop} (q : ∀ b, Adds P w Z s a ks k (Q b)) : wpAny (model P w) A (setAddHashed a (.ref x) (tkh P w k)) Q E s := by
  obtain ⟨o, ho, hex, hd⟩ := R.obj
  unfold setAddHashed
  refine wpAny_holding ?_
  rw [show (100000 : Nat) = 99999 + 1 from rfl, setAddHashedIn_succ]
  refine wpAny_bind (wpAny_setState_of ho hd R.fits ?_)
  dsimp only
  refine wp_if_neg (by simp [byScan, Value.scannable]) ?_
  try refine wpAny_bind (wpAny_pure ?_)
  refine wpAny_bind (look_whole R hx hu (fun hm => ?_) fun K hm hK hb => ?_)
  · dsimp only
    exact wpAny_pure (q false s.heap ks es ep t (Heap.SameBut.refl a s.heap) R (fun j => ⟨.inr, fun h => h.elim (fun e => by subst e; exact hm) id⟩) (Nat.le_succ _))
  · dsimp only
    refine wpAny_bind (wpAny_setState_of ho hd R.fits ?_)
    dsimp only
    obtain ⟨q1, q2, q3, q4, q5, q6, q7, q8, q9⟩ := R.tab.put hK hb
    generalize hpt : t.put (way t.mask (tkh P w k) K) = pt at q1 q3 q4 q5 q6 q7 q8 q9 ⊢
    obtain ⟨t1, p⟩ := pt
    dsimp only at q1 q3 q4 q5 q6 q7 q8 q9 ⊢
    subst q1
    rw [List.length_map] at q2
    have fin : ∀ t2 : SetTable, t2.place = t1.place → t2.dummies = t1.dummies → t2.mask = t1.mask → wpAny (model P w) A (do
        storeSet a (SetTable.insertAt es (SetTable.below t.place (way t.mask (tkh P w k) K)) (tkh P w k, .ref x)) t2
        if t2.tooFull then setRelay a (SetTable.grown (es.size + 1))
        return true) Q E s := fun t2 h1 h2 h3 => lay_row R hx hz hm hfew q2 (tab_plain q3 h1 h2 h3) (h3.trans q4) (q true)
    have both : ∀ r : Bool, wpAny (model P w) A (do
        storeSet a (SetTable.insertAt es (SetTable.below t.place (way t.mask (tkh P w k) K)) (tkh P w k, .ref x)) (if r = true then t1 else { t1 with plain := false })
        if (if r = true then t1 else { t1 with plain := false }).tooFull then setRelay a (SetTable.grown (es.size + 1))
        return true) Q E s := by
      intro r
      cases r
      · exact fin _ rfl rfl rfl
      · exact fin _ rfl rfl rfl
    by_cases hp : t1.plain = true
    · exact wp_if_pos hp (wpAny_bind (some_hash hx fun r => both r))
    · exact wp_if_neg hp (wpAny_bind (wpAny_pure (both true)))
/-- set.add -/
theorem call_add (R : Rws P w Z s.heap a ks es ep t) {x : Addr} {k : List Key} (hx : TupAt P w s.heap k x) (hz : Z k x) (hu : A.in1.units < cLine) (hfew : ks.length + 1 < 64) {Q : Value → Shared → Prop}
    (q : ∀ h' ks' es' ep' t', Heap.SameBut a s.heap h' → Rws P w Z h' a ks' es' ep' t' → (∀ j, j ∈ ks' ↔ j = k ∨ j ∈ ks) → ks'.length ≤ ks.length + 1 → Q .none { s with heap := h', toks := s.toks + (k.length + 1) }) :
    wpAny (model P w) A (call (.builtin "set.add") [.ref a, .ref x]) Q E s := by
  obtain ⟨o, ho, hex, hd⟩ := id R.obj
  refine wpAny_call_entry F.slot_set_add (show s.TypeIs (.ref a) "set" from ⟨o, ho, hex.1⟩) F.entry_set_add ?_ (F.args_set_add_2 _ _)
  unfold Builtin.«set.add» Builtin.Frozenset.oneOther
  simp only [List.isEmpty_nil, bind_assoc]
  unfold Builtin.Frozenset.addrOf setAdd
  refine wpAny_bind (wpAny_pure ?_)
  try dsimp only
  refine wpAny_bind (wpAny_pure ?_)
  try dsimp only
  refine wpAny_bind ?_
  refine wpAny_holding ?_
  refine wpAny_bind (wpAny_pyHash_tuple hu hx ?_)
  refine add_row (s := { s with toks := s.toks + (k.length + 1) }) ⟨R.obj, R.ent, R.tab, R.nd, R.room, R.few⟩ hx hz hu hfew fun b h' ks' es' ep' t' sb R' hin hl => ?_
  show wpAny _ _ (ret Value.none) _ _ _
  exact wpAny_pure ⟨_, rfl, q h' ks' es' ep' t' sb R' hin hl⟩
end
end UU
namespace UU
open PySem PySem.Spec PyProof.Rows L2 DD
/-- at a stands the set of the tuples L (address and what is in it) -/
def Stands (P : Program) (w : World) (L : List (Addr × List Key)) (h : Heap) (a : Addr) : Prop := ∃ (es : Array (Int × Value)) (ep : Nat) (t : SetTable), (∃ o, h.get? a = some o ∧ o.ExactSet ∧ o.data = .set es ep t) ∧ es.toList = L.map (fun p => (tkh P w p.2, Value.ref p.1)) ∧
  TabOk t (L.map fun p => tkh P w p.2) ∧ (L.map (·.2)).Nodup ∧ L.length * 5 < t.mask * 3 ∧ L.length < 64
def SetU (P : Program) (w : World) (a : Addr) (L : List (Addr × List Key)) : HO := .ext fun h => Stands P w L h a
section
variable {P : Program} {w : World}
theorem stands_keep {L : List (Addr × List Key)} {h h' : Heap} {a : Addr} (x : Stands P w L h a) (k : ∀ o, h.get? a = some o → h'.get? a = some o) : Stands P w L h' a := by
  obtain ⟨es, ep, t, ⟨o, ho, r⟩, q⟩ := x
  exact ⟨es, ep, t, ⟨o, k o ho, r⟩, q⟩
theorem setU_new {H : Hp} {h : Heap} {a : Addr} {L : List (Addr × List Key)} (x : Stands P w L h a) : ObjOk P w H h a (SetU P w a L) := by
  obtain ⟨_, _, _, ⟨o, ho, _⟩, _⟩ := id x
  exact ⟨x, ⟨o, ho⟩, fun h1 h2 p k => stands_keep p k⟩
theorem stands_fresh {h : Heap} {a : Addr} {led : Bool} (ho : h.get? a = some { cls := .type "set", dict := none, data := .set #[] 0 (.fresh 0 0 led) }) : Stands P w [] h a := by
  refine ⟨#[], 0, _, ⟨_, ho, ⟨rfl, rfl, rfl⟩, rfl⟩, rfl, ⟨List.Pairwise.nil, rfl, rfl, .inl rfl, fun x hx => (by cases hx), fun i h j hi => (by simp at hi)⟩, List.nodup_nil, ?_, ?_⟩
  · show 0 * 5 < 7 * 3
    decide
  · show 0 < 64
    decide
theorem items_of : ∀ {k : List Key} {us : List Value}, Vals (k.map kV) us → ItemsAre (mixKind P w) k us := by
  intro k us r
  have h : ∀ {k : List Key} {us : List Value}, Paired (fun k v => (mixKind P w).is k v = true) k us → ItemsAre (mixKind P w) k us := by
    intro k us r
    induction r with
    | nil => exact .nil
    | cons a _ ih => exact .cons a ih
  exact h (paired_keys r)
end
section
variable {X : Cx}
theorem tup_known {pins : List (Addr × Obj)} {σ : L2.St} {H : Hp} {s : Shared} {b : Addr} {k : List Key} (I : Inv X pins σ H s) (h : SqT X.K H b (k.map kV)) : TupAt X.prog X.w s.heap k b := by
  obtain ⟨its, r, ⟨o, ho, hc, n, hd⟩, _⟩ := I.tuple h
  exact ⟨o, its.toArray, n, ho, hc, hd, by simpa using items_of r⟩
theorem ents_of {h : Heap} : ∀ {L : List (Addr × List Key)}, (∀ p ∈ L, TupAt X.prog X.w h p.2 p.1) → ∀ (M : List (Addr × List Key)), (∀ p ∈ L, p ∈ M) → Paired (Ent X.prog X.w (fun k b => (b, k) ∈ M) h) (L.map (·.2)) (L.map fun p => (tkh X.prog X.w p.2, Value.ref p.1))
  | [], _, _, _ => .nil
  | p :: L, ht, M, hm => .cons ⟨p.1, rfl, ht p List.mem_cons_self, hm p List.mem_cons_self⟩ (ents_of (fun q hq => ht q (List.mem_cons_of_mem _ hq)) M fun q hq => hm q (List.mem_cons_of_mem _ hq))
theorem ents_back {h : Heap} {M : List (Addr × List Key)} : ∀ {ks : List (List Key)} {l : List (Int × Value)}, Paired (Ent X.prog X.w (fun k b => (b, k) ∈ M) h) ks l → ∃ L : List (Addr × List Key), L.map (·.2) = ks ∧ l = L.map (fun p => (tkh X.prog X.w p.2, Value.ref p.1)) ∧ ∀ p ∈ L, p ∈ M
  | _, _, .nil => ⟨[], rfl, rfl, fun p hp => by cases hp⟩
  | k :: ks, _, .cons ⟨b, rfl, _, hz⟩ r => by
    obtain ⟨L, rfl, rfl, hm⟩ := ents_back r
    refine ⟨(b, k) :: L, rfl, rfl, fun p hp => ?_⟩
    rcases List.mem_cons.mp hp with rfl | hp
    · exact hz
    · exact hm p hp
theorem add_known {pins : List (Addr × Obj)} {σ : L2.St} {H : Hp} {s : Shared} {E : Value → Shared → Prop} {D x : Addr} {L : List (Addr × List Key)} {k : List Key} {Q : Value → Shared → Prop} (I : Inv X pins σ H s) (hD : H D = some (SetU X.prog X.w D L))
    (ht : ∀ p ∈ L, SqT X.K H p.1 (p.2.map kV)) (hx : SqT X.K H x (k.map kV)) (hu : X.A.in1.units < cLine) (few : L.length + 1 < 64)
    (q : ∀ s' L', Inv X pins σ (upd H D (SetU X.prog X.w D L')) s' → (∀ p ∈ L', p ∈ (x, k) :: L) → (∀ j, j ∈ L'.map (·.2) ↔ j = k ∨ j ∈ L.map (·.2)) → (L'.map (·.2)).Nodup → L'.length ≤ L.length + 1 → Q .none s') :
    wpAny (model X.prog X.w) X.A (call (.builtin "set.add") [.ref D, .ref x]) Q E s := by
  obtain ⟨es, ep, t, ob, he, T, nd, room, few0⟩ : Stands X.prog X.w L s.heap D := (I.hok D _ hD).1
  have R : Rws X.prog X.w (fun k' b => (b, k') ∈ (x, k) :: L) s.heap D (L.map (·.2)) es ep t := by
    refine ⟨ob, ?_, by rw [List.map_map]; exact T, nd, by rw [List.length_map]; exact room, by rw [List.length_map]; exact few0⟩
    rw [he]
    exact ents_of (fun p hp => tup_known I (ht p hp)) _ fun p hp => List.mem_cons_of_mem _ hp
  refine call_add R (tup_known I hx) List.mem_cons_self hu (by rw [List.length_map]; exact few) fun h' ks' es' ep' t' sb R' hin hl => ?_
  obtain ⟨L', rfl, e', hm⟩ := ents_back R'.ent
  have st : Stands X.prog X.w L' h' D := ⟨es', ep', t', R'.obj, e', by have := R'.tab; rw [List.map_map] at this; exact this, R'.nd, by have := R'.room; rwa [List.length_map] at this, by have := R'.few; rwa [List.length_map] at this⟩
  have ex : ∃ u, h'.get? D = some u := by
    obtain ⟨o, ho, _⟩ := R'.obj
    exact ⟨o, ho⟩
  refine q _ L' (I.write (e := D) (t' := s.toks + (k.length + 1)) (by rw [hD]; trivial) (.inl rfl) (fun b u hb hu => (sb.2 b hb).trans hu) ex (setU_new st)) hm hin R'.nd ?_
  rw [List.length_map, List.length_map] at hl
  exact hl
end
end UU
namespace UU
open PySem PySem.Spec PyProof.Rows L2 DD
/-- what a tuple's joining the set of L at D leaves: any list of the old ones and the new one -/
def Joins (P : Program) (w : World) (K : PySem.W.Frag) (D : Addr) (y : V) (H : Hp) (Nx : Hp → Prop) : Prop := ∃ (x : Addr) (k : List Key) (L : List (Addr × List Key)), y = .ref x ∧ SqT K H x (k.map kV) ∧ H D = some (SetU P w D L) ∧ (∀ p ∈ L, SqT K H p.1 (p.2.map kV)) ∧ L.length + 1 < 64 ∧
  ∀ L', (∀ p ∈ L', p ∈ (x, k) :: L) → (∀ j, j ∈ L'.map (·.2) ↔ j = k ∨ j ∈ L.map (·.2)) → (L'.map (·.2)).Nodup → L'.length ≤ L.length + 1 → Nx (upd H D (SetU P w D L'))
/-- len({elt for target in iter if ..}) -/
def tLsc (P : Program) (w : World) (K : PySem.W.Frag) (wi : TI) (g : TG) (tt : TT) (te : TE) (vs : List Nat) : TE := fun σ H Q => wi σ H fun J H1 => ∀ D, H1 D = none → ∃ V : Nat → Nat → Hp → Prop, (∃ m, V 0 m (upd H1 D (SetU P w D []))) ∧ ∀ i m H2, V i m H2 →
  (J.stop i H2 ∧ ∃ L, H2 D = some (SetU P w D L) ∧ Q (.int (L.length : Nat)) H2) ∨ (J.go i H2 ∧ ∃ Nx : Hp → Prop, (∀ H', Nx H' → ∃ m', m' < m ∧ V (i + 1) m' H') ∧ ∀ x H3, J.yld i H2 x H3 → g x (wipe σ vs) H3 fun σ4 H4 => wipe σ4 vs = wipe σ vs ∧ tt σ4 H4 fun b H5 =>
    if b = true then te σ4 H5 fun y H6 => Joins P w K D y H6 Nx else Nx H5)
section
variable {X : Cx}
theorem core {pins : List (Addr × Obj)} {s : Shared} {σ : L2.St} {H : Hp} {Q : VK} {elt tg iter : Expr} {ifs : List Expr} {scope : Scope} {own : List (PySem.Str × Nat)} {pos : Pos} {wi : TI} {g : TG} {tt : TT} {te : TE} {Fin' : Value → Shared → Prop}
    (calm : X.calm = true) (hu : X.A.units + 1 < cLine) (nd : X.N.Nodup) (inv : Inv X pins σ H s) (pi : PI X tg iter wi) (blk : BlkOk X.N X.env.scope scope own)
    (pg : ∀ (s : Shared) (H : Hp) (C : Addr) (cl : List (PySem.Str × Addr)) (fp : List Addr), PG (X.blk s H scope (compEnvC scope cl C X.env) fp) tg g) (pt : ∀ (s : Shared) (H : Hp) (C : Addr) (cl : List (PySem.Str × Addr)) (fp : List Addr), PTs (X.blk s H scope (compEnvC scope cl C X.env) fp) ifs tt)
    (pe : ∀ (s : Shared) (H : Hp) (C : Addr) (cl : List (PySem.Str × Addr)) (fp : List Addr), PE (X.blk s H scope (compEnvC scope cl C X.env) fp) elt te) (fold : ∀ x, foldedSetIterable iter X.env x = pure x)
    (h : tLsc X.prog X.w X.K wi g tt te (own.map (·.2)) σ H Q)
    (after : ∀ D s' H' L, Inv X pins σ H' s' → H' D = some (SetU X.prog X.w D L) → Q (.int (L.length : Nat)) H' → Fin' (.ref D) s') :
    wpAny (model X.prog X.w) X.A (eval (.SetComp elt [⟨tg, iter, ifs, 0⟩] scope pos) X.env) Fin' X.xe s := by
  rw [PpSet.eval_SetComp]
  have cells : ∀ y ∈ scope.names, y.2 = .free → ∃ c, X.env.cells.lookup y.1 = some c := fun y hy e => (blk.free y hy e).elim (fun z => inv.ok.has _ (.inl z)) fun z => inv.ok.has _ (.inr z)
  refine wpAny_comprehension_free (use := none) rfl fold (closure_ok cells) blk.kind (fun y hy e => by rw [blk.uniq y hy, e]) (thn (pi.run pins s σ H _ inv h) fun xv s1 got => thn got fun itv s2 start => ?_)
  obtain ⟨it, fp, tn, J, H2, rfl, inv2, T, tn2, fp2, todo⟩ := start
  refine PpSet.newSet_ok (newEnv_comp ?_)
  obtain ⟨D, hD⟩ : ∃ D, s2.heap.objs.size = D := ⟨_, rfl⟩
  rw [hD]
  obtain ⟨V, ⟨m0, v0⟩, turn⟩ := todo D (inv2.hok.fresh (Nat.le_of_eq hD))
  obtain ⟨s3, es3⟩ : ∃ s3 : Shared, { s2 with heap := s2.heap.push { cls := .type "set", dict := none, data := .set #[] 0 (.fresh 0 0 (!X.w.params.followText "set-order")) } } = s3 := ⟨_, rfl⟩
  have heap3 : s3.heap = s2.heap.push { cls := .type "set", dict := none, data := .set #[] 0 (.fresh 0 0 (!X.w.params.followText "set-order")) } := by rw [← es3]
  have keep3 : ∀ b o, s2.heap.get? b = some o → s3.heap.get? b = some o := fun b o e => by rw [heap3]; exact Heap.get?_push_of_some _ e
  obtain ⟨H3, eH3⟩ : ∃ H3, upd H2 D (SetU X.prog X.w D []) = H3 := ⟨_, rfl⟩
  have inv3 : Inv X pins σ H3 s3 := by
    rw [← eH3, ← es3]
    refine inv2.laid (t' := s2.toks) (fun b o e => Heap.get?_push_of_some _ e) (Nat.le_of_eq hD) ?_
    rw [← hD]
    exact setU_new (stands_fresh (Heap.get?_push_size _ rfl))
  rw [eH3] at v0
  have small : ∀ b ∈ fp, b < s2.heap.objs.size := fun b hb => (T.obj _ _ tn2 b hb).elim fun o z => Heap.lt_size z.1
  have fp3 : ∀ b ∈ fp, FpOk X pins H3 b ∧ b < s3.heap.objs.size := fun b hb => by
    have lt := small b hb
    refine ⟨⟨?_, (fp2 b hb).2⟩, by rw [heap3, Heap.size_push]; exact Nat.lt_succ_of_lt lt⟩
    rw [← eH3, upd_ne (Nat.ne_of_lt (hD ▸ lt))]
    exact (fp2 b hb).1
  have tn3 : tn 0 s3.heap := T.keep _ _ _ tn2 fun b _ o e => keep3 b o e
  have inv4 := block_start inv3 blk nd fp3
  rw [es3]
  have none3 : ∀ b ∈ fp, H3 b = none := fun b hb => (fp3 b hb).1.1
  obtain ⟨cl, ecl⟩ : ∃ cl, cellsFrom (s3.heap.objs.size + 1) scope.names (cloFrom X.env.cells scope.names []) = cl := ⟨_, rfl⟩
  have pg' := pg s3 H3 s3.heap.objs.size cl fp
  have pt' := pt s3 H3 s3.heap.objs.size cl fp
  have pe' := pe s3 H3 s3.heap.objs.size cl fp
  rw [ecl] at inv4
  show codeAny _ _ (.compStart (.SetComp elt [⟨tg, iter, ifs, 0⟩] scope pos) 0 (.ref it) (.ref D) (compEnvC scope (cellsFrom (s3.heap.objs.size + 1) scope.names (cloFrom X.env.cells scope.names [])) s3.heap.objs.size X.env)) _ _
  rw [ecl]
  obtain ⟨C, eC⟩ : ∃ C, s3.heap.objs.size = C := ⟨_, rfl⟩
  rw [eC] at inv4 pg' pt' pe' ⊢
  obtain ⟨ce, ece⟩ : ∃ ce, compEnvC scope cl C X.env = ce := ⟨_, rfl⟩
  have loc : ce.locals = C := by rw [← ece]; rfl
  rw [ece] at inv4 pg' pt' pe' ⊢
  obtain ⟨s4, es4⟩ : ∃ s4 : Shared, { s3 with heap := pushCells (s3.heap.push { cls := .type "dict", data := .dict #[] }) scope.names } = s4 := ⟨_, rfl⟩
  rw [es4] at inv4 ⊢
  have tn4 : tn 0 s4.heap := T.keep _ _ _ tn3 fun b _ o e => by
    rw [← es4]
    exact pushCells_keeps _ _ _ _ (Heap.get?_push_of_some _ e)
  -- what an iterator's address is to the block
  have spot : ∀ {τ : L2.St} {G : Hp} {z : Shared}, Inv (X.blk s3 H3 scope ce fp) [] τ G z → (∀ b ∈ fp, G b = none) → ∀ b ∈ fp, FpOk (X.blk s3 H3 scope ce fp) [] G b := by
    intro τ G z J0 no b hb
    have ⟨e1, e2⟩ := J0.ok.exf b hb
    exact ⟨no b hb, e1, J0.ok.exfs b hb, .inl hb, fun x c e => e2 x c e, fun p hp => by
      have hp : p ∈ ([] : List (Addr × Obj)) ++ [] := hp
      simp at hp⟩
  -- where a turn begins
  let Here : Nat → Shared → Prop := fun n z => ∃ i G, Inv (X.blk s3 H3 scope ce fp) [] (wipe σ (own.map (·.2))) G z ∧ tn i z.heap ∧ (∀ b ∈ fp, G b = none) ∧ V i n G
  have run : codeAny (model X.prog X.w) X.A (.compLoop (.SetComp elt [⟨tg, iter, ifs, 0⟩] scope pos) 0 (.ref it) (.ref D) ce) (compPost (model X.prog X.w) X.A X.xe none Fin' (.ref D) C) s4 := by
    refine PpSet.compLoopS_any Here ?_ m0 ⟨0, H3, inv4, tn4, none3, v0⟩
    rintro n z ⟨i, G, J1, t1, no1, v1⟩
    rcases turn i n G v1 with ⟨stop, L, hL, hq⟩ | ⟨go, Nx, less, one⟩
    · -- the end
      refine thnF (T.done (X.blk s3 H3 scope ce fp) rfl rfl rfl calm i [] z _ G (fun _ _ => False) J1 (spot J1 no1) t1 stop) fun r z2 ⟨hr, J2⟩ => ?_
      subst hr
      have back : Inv X pins σ G z2 := inv3.call' (ch := fp) J2.os J2.base J2.hok J2.bare fun b hb => by
        have ⟨_, e1, e2, e3, e4, e5⟩ := (fp3 b hb).1
        exact ⟨e3, e1, e4, e5⟩
      have noC : G C = none := by
        have e : G ce.locals = none := J2.free
        rwa [loc] at e
      obtain ⟨m, hm, _⟩ := J2.loc
      have hm : z2.heap.Ns ce.locals m := hm
      rw [loc] at hm
      refine ⟨m, hm, fun h'' sb => ?_⟩
      have ⟨f0, f1, _, f3, f4, f5⟩ : FpOk X pins G C := by
        rw [← eC] at noC ⊢
        exact inv3.fpOk (Nat.le_refl _) noC
      exact after D _ G L (back.turned (t' := z2.toks) (fun b o hb e => (sb.2 b hb).trans e) f0 f1 f3 f4 f5) hL hq
    · -- one more
      refine thnF (T.item (X.blk s3 H3 scope ce fp) rfl rfl rfl calm i [] z _ G (fun _ _ => False) J1 (spot J1 no1) t1 go) fun r z2 ⟨u, hr, h2⟩ => ?_
      subst hr
      refine thnF h2 fun _ z3 ⟨x, G3, J3, r3, y3, t3, no3⟩ => ?_
      refine thnF (pg'.run _ z3 _ G3 x u _ (J3.pinned (spot J3 no3) (T.obj _ _ t3)) r3 (one x G3 y3)) fun _ z4 ⟨τ4, G4, J4, w4, q4⟩ => ?_
      refine thnF (pt'.run _ z4 τ4 G4 _ J4 q4) fun b z5 ⟨G5, J5, q5⟩ => ?_
      have close : ∀ {z' : Shared} {G' : Hp}, Inv (X.blk s3 H3 scope ce fp) ([] ++ pinsAt fp z3.heap) τ4 G' z' → Nx G' → ∃ m, m < n ∧ Here m z' := by
        intro z' G' J' nx
        obtain ⟨m', lt, v'⟩ := less G' nx
        have pinned : ∀ b ∈ fp, ∀ o, z3.heap.get? b = some o → z'.heap.get? b = some o ∧ G' b = none := fun b hb o e => by
          have ⟨p1, p2, _⟩ := J'.pin (b, o) (List.mem_append_right _ (List.mem_append_right _ (mem_pinsAt hb e)))
          exact ⟨p1, p2⟩
        refine ⟨m', lt, i + 1, G', (J'.unpinned (pins := [])).weak (by rw [← w4, wipe_length]) (fun j v e => ?_), T.keep _ _ _ t3 fun b hb o e => (pinned b hb o e).1, fun b hb => ?_, v'⟩
        · rw [← w4] at e
          exact (wipe_some e).1
        · obtain ⟨o, e, _⟩ := T.obj _ _ t3 b hb
          exact (pinned b hb o e).2
      cases b with
      | false => exact close J5 (by simpa using q5)
      | true =>
        have q5 : te τ4 G5 fun y H6 => Joins X.prog X.w X.K D y H6 Nx := by simpa using q5
        simp only [if_true]
        refine thnF (pe'.run _ z5 τ4 G5 _ J5 q5) fun v z6 ⟨yv, G6, J6, r6, jn⟩ => ?_
        obtain ⟨x, k, L, rfl, hx, hD6, hts, few, nx⟩ := jn
        cases r6
        exact add_known (X := X.blk s3 H3 scope ce fp) J6 hD6 hts hx hu few fun z7 L' J7 m1 m2 m3 m4 => close J7 (nx L' m1 m2 m3 m4)
  exact PpSet.codeAny_compStart_set run (T.self X.A 0 _ _ _ tn4 run)
end
end UU
namespace DD
open PySem PySem.Spec PyProof.Rows L2 UU
theorem pe_lenSet {X : Cx} {elt tg iter : Expr} {ifs : List Expr} {scope : Scope} {own : List (PySem.Str × Nat)} {p pos cpos : Pos} {wi : TI} {g : TG} {tt : TT} {te : TE} (calm : X.calm = true) (hu : X.A.units + 2 < cLine) (hg : Gl X "len") (hm : X.mg "len" = none) (nd : X.N.Nodup) (pi : PI X tg iter wi) (blk : BlkOk X.N X.env.scope scope own)
    (pg : ∀ (s : Shared) (H : Hp) (C : Addr) (cl : List (PySem.Str × Addr)) (fp : List Addr), PG (X.blk s H scope (compEnvC scope cl C X.env) fp) tg g) (pt : ∀ (s : Shared) (H : Hp) (C : Addr) (cl : List (PySem.Str × Addr)) (fp : List Addr), PTs (X.blk s H scope (compEnvC scope cl C X.env) fp) ifs tt)
    (pe : ∀ (s : Shared) (H : Hp) (C : Addr) (cl : List (PySem.Str × Addr)) (fp : List Addr), PE (X.blk s H scope (compEnvC scope cl C X.env) fp) elt te) (fold : ∀ x, foldedSetIterable iter X.env x = pure x) :
    PE X (.Call (.Name "len" p) [.SetComp elt [⟨tg, iter, ifs, 0⟩] scope pos] [] cpos) (tLsc X.prog X.w X.K wi g tt te (own.map (·.2))) := by
  refine ⟨fun pins s σ H Q I h => ?_⟩
  refine Call_ (ld_blt I hg hm PySem.boot_len ?_)
  refine PyProof.Rows.callWith_builtin1 (PyProof.Rows.args_cons ?_ rfl) rfl rfl
  refine core calm (by omega) nd I pi blk pg pt pe fold h fun D s' H' L I' hD hq => ?_
  obtain ⟨es, ep, t, ⟨o, ho, hex, hd⟩, he, T, _, room, few⟩ : Stands X.prog X.w L s'.heap D := (I'.hok D _ hD).1
  have hn : es.size = L.length := by
    have h := congrArg List.length he
    rwa [Array.length_toList, List.length_map] at h
  have hf : t.fits es.size = true := fits_of (m := 0) T.dm (by rw [T.sz, List.length_map, hn]) (by rw [hn]; omega)
  refine PyProof.Rows.args_nil ?_
  exact call_len_set ho hex hd hf (by rw [hn]; omega) ⟨.int (L.length : Nat), H', I'.tok _, ⟨_, by rw [hn]⟩, hq⟩
@[irreducible] def lenD (g : DG) (tt : DT) (te : DE) (vs : List Nat) (xs : List Sv) (Δ : List Sv) (st1 : Store) (ok : OK) : Prop := xs.length < 63 ∧ ∃ J : Nat → List (List Key) → Store → Prop, J 0 [] st1 ∧
  (∀ i d acc st', xs[i]? = some d → J i acc st' → g d (wipeD Δ vs) st' fun Δ2 st2 => tt Δ2 st2 (fun b st3 => (b = true → te Δ2 st3 (fun y st4 => ∃ dy k, y = .dat dy ∧ keyT dy = some k ∧ J (i + 1) (acc ++ [k]) st4) fun _ _ => False) ∧ (b = false → J (i + 1) acc st3)) fun _ _ => False) ∧
  ∀ acc st', J xs.length acc st' → ∀ L : List (List Key), L.Nodup → (∀ k, k ∈ L ↔ k ∈ acc) → ok (.dat (.int (L.length : Nat))) st'
theorem lenD_eq (g : DG) (tt : DT) (te : DE) (vs : List Nat) (xs : List Sv) (Δ : List Sv) (st1 : Store) (ok : OK) : lenD g tt te vs xs Δ st1 ok = (xs.length < 63 ∧ ∃ J : Nat → List (List Key) → Store → Prop, J 0 [] st1 ∧
  (∀ i d acc st', xs[i]? = some d → J i acc st' → g d (wipeD Δ vs) st' fun Δ2 st2 => tt Δ2 st2 (fun b st3 => (b = true → te Δ2 st3 (fun y st4 => ∃ dy k, y = .dat dy ∧ keyT dy = some k ∧ J (i + 1) (acc ++ [k]) st4) fun _ _ => False) ∧ (b = false → J (i + 1) acc st3)) fun _ _ => False) ∧
  ∀ acc st', J xs.length acc st' → ∀ L : List (List Key), L.Nodup → (∀ k, k ∈ L ↔ k ∈ acc) → ok (.dat (.int (L.length : Nat))) st') := by
  unfold lenD
  rfl
section
variable {K : PySem.W.Frag} {W : WX} {st : Store} {I H : Hp}
theorem wd_beside {D : Addr} (w : Wd K st I H) (hD : D ∉ keys st) (iD : I D = none) (o : HO) : Wd K st I (upd H D o) := by
  refine ⟨fun a u e => ?_, fun p ob hp => ?_, w.nd⟩
  · have ne : a ≠ D := fun z => by
      subst z
      rw [iD] at e
      cases e
    rw [upd_ne ne]
    exact w.sub a u e
  · have ne : p ≠ D := fun z => by
      subst z
      exact hD (List.mem_map.mpr ⟨_, hp, rfl⟩)
    obtain ⟨h1, u, h2, h3⟩ := w.own p ob hp
    exact ⟨h1, u, by rw [upd_ne ne]; exact h2, h3⟩
theorem stp_beside {D : Addr} {st0 : Store} {I0 H0 : Hp} (s : Stp st0 I0 H0 st I H) (h0 : H0 D = none) (o : HO) : Stp st0 I0 H0 st I (upd H D o) :=
  ⟨s.ii, fun a u ha e => by
    have ne : a ≠ D := fun z => by
      subst z
      rw [h0] at e
      cases e
    rw [upd_ne ne]
    exact s.hh a u ha e, s.nw, s.ks⟩
/-- the set at D, beside the world -/
structure Beside (P : Program) (w : World) (D : Addr) (L : List (Addr × List Key)) (st : Store) (I H : Hp) : Prop where
  nk : D ∉ keys st
  ni : I D = none
  at_ : H D = some (SetU P w D L)
  tup : ∀ p ∈ L, I p.1 = some (.tup (p.2.map kV))
theorem Beside.go {P : Program} {w : World} {D : Addr} {L : List (Addr × List Key)} {st' : Store} {I' H' : Hp} (b : Beside P w D L st I H) (s : Stp st I H st' I' H') : Beside P w D L st' I' H' where
  nk := fun h => by
    rcases s.ks D h with z | z
    · exact b.nk z
    · rw [b.at_] at z; cases z
  ni := by
    cases e : I' D with
    | none => rfl
    | some o =>
      exfalso
      rcases s.nw D (by rw [e]; exact fun z => by cases z) with z | z | z | ⟨vs, z⟩
      · exact z b.ni
      · rw [b.at_] at z; cases z
      · exact b.nk z
      · rw [b.at_] at z; cases z
  at_ := s.hh D _ b.nk b.at_
  tup := fun p hp => s.ii _ _ (b.tup p hp)
theorem ls_go {P : Program} {w : World} {g : DG} {tt : DT} {te : DE} {vs : List Nat} {Δ : List Sv} {ok : OK} {σ : L2.St} {Q : VK} {J : It} {xs : List Sv} (w1 : Wd K st I H) (sl : Sl K Δ I σ) (h1 : lenD g tt te vs xs Δ st ok) (k1 : Wk K st I H J xs) (c : Cont K st I H ok Q) (D : Addr) (hD : H D = none) :
    ∃ V : Nat → Nat → Hp → Prop, (∃ m, V 0 m (upd H D (SetU P w D []))) ∧ ∀ i m H2, V i m H2 →
      (J.stop i H2 ∧ ∃ L, H2 D = some (SetU P w D L) ∧ Q (.int (L.length : Nat)) H2) ∨ (J.go i H2 ∧ ∃ Nx : Hp → Prop, (∀ H', Nx H' → ∃ m', m' < m ∧ V (i + 1) m' H') ∧ ∀ x H3, J.yld i H2 x H3 → lowGw K vs g x (wipe σ vs) H3 fun σ4 H4 => wipe σ4 vs = wipe σ vs ∧ lowT K tt W0 σ4 H4 fun b H5 =>
        if b = true then low K te W0 σ4 H5 fun y H6 => Joins P w K D y H6 Nx else Nx H5) := by
  rw [lenD_eq] at h1
  obtain ⟨few, Jv, j0, jt, je⟩ := h1
  obtain ⟨G, Y, wk, hg, hy⟩ := k1.w
  have iD : I D = none := w1.sub.none hD
  have kD : D ∉ keys st := fun hm => by
    obtain ⟨⟨q, ob⟩, hq, e⟩ := List.mem_map.mp hm
    obtain ⟨_, u, h2, _⟩ := w1.own q ob hq
    have e : q = D := e
    subst e
    rw [hD] at h2
    cases h2
  refine any_it wk (B := fun Nx x H' => lowGw K vs g x (wipe σ vs) H' fun σ4 H4 => wipe σ4 vs = wipe σ vs ∧ lowT K tt W0 σ4 H4 fun b H5 => if b = true then low K te W0 σ4 H5 fun y H6 => Joins P w K D y H6 Nx else Nx H5)
    (fun i H' => ∃ acc st' I' L, Jv i acc st' ∧ Wd K st' I' H' ∧ Stp st I H st' I' H' ∧ Beside P w D L st' I' H' ∧ (L.map (·.2)).Nodup ∧ (∀ k, k ∈ L.map (·.2) ↔ k ∈ acc) ∧ L.length ≤ i)
    ⟨[], st, I, [], j0, wd_beside w1 kD iD _, stp_beside (Stp.refl _ _ _) hD _, ⟨kD, iD, upd_same, fun p hp => by cases hp⟩, List.nodup_nil, fun k => ⟨fun h => by simp at h, fun h => by cases h⟩, Nat.le_refl _⟩ (fun i H' ⟨_, _, I', _, _, w', s', _⟩ => hg _ I' H' w' s') ?_ ?_
  · rintro i x H' H3 hi ⟨acc, st', I', L, hj, w', s', bs, nd, hm, hl⟩ y
    obtain ⟨d, I3, hd, w3, s3, ix⟩ := hy i H' x H3 _ I' hi w' s' y
    have b3 := bs.go s3
    have t3 := s'.trans s3
    refine ⟨d, _, _, I3, _, w3, sl_wipe (sl.mono t3.ii) vs, ix, jt i d acc st' hd hj, fun Δ4 st4 σ4 I4 H4 h4 w4 s4 l4 e4 => ⟨by rw [e4, wipe_wipe], ?_⟩⟩
    have t4 := t3.trans s4
    have b4 := b3.go s4
    refine lowT_go w4 l4 h4 (fun b st5 I5 H5 h5 w5 s5 => ?_) (fun _ _ _ _ _ _ z => z.elim)
    have t5 := t4.trans s5
    have b5 := b4.go s5
    cases b with
    | false => exact iteF ⟨acc, st5, I5, L, h5.2 rfl, w5, t5, b5, nd, hm, by omega⟩
    | true =>
      refine iteT (low_go w5 (l4.mono s5.ii) (h5.1 rfl) (fun y st6 u I6 H6 h6 w6 s6 i6 => ?_) (fun _ _ _ _ _ _ z => z.elim))
      obtain ⟨dy, k, rfl, hk, hj'⟩ := h6
      have b6 := b5.go s6
      cases i6 with
      | dat i6 =>
        obtain ⟨x6, rfl, ix6, hx6⟩ := keyT_is w6 i6 hk
        refine ⟨x6, k, L, rfl, w6.sub.st (.inl (.inl ix6)), b6.at_, fun p hp => w6.sub.st (.inl (.inl (b6.tup p hp))), by omega, fun L' m1 m2 m3 m4 => ?_⟩
        refine ⟨acc ++ [k], st6, I6, L', hj', wd_beside w6 b6.nk b6.ni _, stp_beside (t5.trans s6) hD _, ⟨b6.nk, b6.ni, upd_same, fun p hp => ?_⟩, m3, fun j => ?_, by omega⟩
        · rcases List.mem_cons.mp (m1 p hp) with rfl | hp
          · exact ix6
          · exact b6.tup p hp
        · rw [m2, hm, List.mem_append, List.mem_singleton]
          exact ⟨fun h => h.symm, fun h => h.symm⟩
  · rintro H' ⟨acc, st', I', L, hj, w', s', bs, nd, hm, hl⟩
    refine ⟨L, bs.at_, ?_⟩
    have h := je _ _ hj _ nd hm
    rw [List.length_map] at h
    exact c _ _ _ _ _ h w' s' (.dat (.int _))
def dLsc (it : DI) (g : DG) (tt : DT) (te : DE) (vs : List Nat) : DE := fun Δ st ok ex => it Δ st (fun xs st1 => lenD g tt te vs xs Δ st1 ok) ex
theorem low_lsc {P : Program} {w : World} {it : DI} {g : DG} {tt : DT} {te : DE} {vs : List Nat} : ∀ σ H Q, low K (dLsc it g tt te vs) W σ H Q → tLsc P w K (lowI K it W) (lowGw K vs g) (lowT K tt W0) (low K te W0) vs σ H Q := by
  rintro σ H Q ⟨Δ, st, I, ok, ex, wd, sl, h, c, cx⟩
  exact ⟨Δ, st, I, _, _, wd, sl, h, fun xs st1 I1 H1 J h1 w1 s1 k1 D hD => ls_go w1 (sl.mono s1.ii) h1 k1 (c.go s1) D hD, cx⟩
end
theorem dlsc {X : Cx} {W : WX} {elt tg iter : Expr} {ifs : List Expr} {scope : Scope} {p pos cpos : Pos} {it : DI} {te : DE} {g : DG} {tt : DT} {kk : Nat} (hr : Room kk X.A) (hm : X.mg "len" = none) (own : List (Str × Nat)) (hN : X.N.Nodup) (hi : PId X W tg iter it) (ok : BlkOk X.N X.env.scope scope own)
    (hg : ∀ (s : Shared) (H : Hp) (C : Addr) (cl : List (Str × Addr)) (fp : List Addr), PGw (X.blk s H scope (compEnvC scope cl C X.env) fp) (own.map (·.2)) tg g) (ht : ∀ (s : Shared) (H : Hp) (C : Addr) (cl : List (Str × Addr)) (fp : List Addr), PTsd (X.blk s H scope (compEnvC scope cl C X.env) fp) ifs tt)
    (he : ∀ (s : Shared) (H : Hp) (C : Addr) (cl : List (Str × Addr)) (fp : List Addr), PEd (X.blk s H scope (compEnvC scope cl C X.env) fp) W0 elt te) (hg0 : Gl X "len" := by rfl) (hc : X.calm = true := by rfl) (hs : ∀ x, foldedSetIterable iter X.env x = pure x := by intro _; rfl) :
    PEd X W (.Call (.Name "len" p) [.SetComp elt [⟨tg, iter, ifs, 0⟩] scope pos] [] cpos) (dLsc it g tt te (own.map (·.2))) := PE.imp (pe_lenSet hc (by have := hu64 hr; omega) hg0 hm hN hi ok hg ht he hs) low_lsc
end DD
namespace DD
open PySem PySem.Spec PyProof.Rows L2 UU
end DD
namespace DD
open PySem PySem.Spec PyProof.Rows L2
end DD
namespace SP
open PySem PySem.Spec PyProof.Rows L2 DD
abbrev wn (b : Bk) (l : Lst) : List Str := (wished b l).map (·.n)
def apart (l : Lst) (p : Plan) : Bool := decide (p.map fun x => epAt l x.1).Nodup
theorem win_names (b : Bk) (l : Lst) : (windows b l).map (·.1) = wn b l := by
  unfold windows wn
  rw [List.map_map]
  rfl
theorem wn_nd {b : Bk} {l : Lst} (hl : LOk l) : (wn b l).Nodup := by
  have h := windows_nd (b := b) hl
  have e : ((wished b l).filterMap fun x => some ((Sum.inr x.n : Key), winD x.win)).map (·.1) = (wn b l).map fun n => (Sum.inr n : Key) := by
    rw [show (fun x : Wi => some ((Sum.inr x.n : Key), winD x.win)) = some ∘ fun x => ((Sum.inr x.n : Key), winD x.win) from rfl, List.filterMap_eq_map, List.map_map, List.map_map]
    rfl
  rw [e] at h
  exact (List.pairwise_map.mp h).imp fun {a b} k z => k (by rw [z])
theorem win_is {b : Bk} {l : Lst} (hl : LOk l) {w : Wi} (hw : w ∈ wished b l) : winOf (windows b l) w.n = w.win := by
  have nd : ((windows b l).map (·.1)).Nodup := by rw [win_names]; exact wn_nd hl
  have hm : (w.n, w.win) ∈ windows b l := List.mem_map.mpr ⟨w, hw, rfl⟩
  unfold winOf
  rw [look_mem nd hm]
  rfl
theorem nodup_of_len {α : Type} [DecidableEq α] : ∀ {M L : List α}, L.Nodup → (∀ k ∈ L, k ∈ M) → M.length ≤ L.length → M.Nodup
  | [], _, _, _, _ => List.nodup_nil
  | a :: M, L, nd, sub, len => by
    have na : a ∉ M := fun h => by
      have := nd.length_le_of_subset (l₂ := M) (fun k hk => by
        rcases List.mem_cons.mp (sub k hk) with rfl | h2
        · exact h
        · exact h2)
      rw [List.length_cons] at len
      omega
    refine List.nodup_cons.mpr ⟨na, nodup_of_len (L := L.erase a) (nd.erase a) (fun k hk => ?_) ?_⟩
    · have h1 := (nd.mem_erase_iff).mp hk
      rcases List.mem_cons.mp (sub k h1.2) with h2 | h2
      · exact absurd h2 h1.1
      · exact h2
    · rw [List.length_erase, List.length_cons] at *
      split <;> omega
theorem len_iff {α : Type} [DecidableEq α] {M L : List α} (nd : L.Nodup) (h : ∀ k, k ∈ L ↔ k ∈ M) : L.length = M.length ↔ M.Nodup :=
  ⟨fun e => nodup_of_len nd (fun k hk => (h k).mp hk) (Nat.le_of_eq e.symm), fun n => ((List.perm_ext_iff_of_nodup nd n).mpr h).length_eq⟩
theorem epKey_inj2 {a b : Ep} (h : epKey a = epKey b) : a = b := by
  unfold epKey at h
  obtain ⟨a1, a2⟩ := a
  obtain ⟨b1, b2⟩ := b
  simp only [List.cons.injEq, Sum.inr.injEq, Sum.inl.injEq, and_true] at h
  rw [h.1, h.2]
theorem apart_len {l : Lst} {p : Plan} {L : List (List Key)} (nd : L.Nodup) (h : ∀ k, k ∈ L ↔ k ∈ p.map fun x => epKey (epAt l x.1)) : decide ((L.length : Int) = (p.length : Int)) = apart l p := by
  unfold apart
  refine decide_eq_decide.mpr ?_
  have h1 := len_iff nd h
  rw [List.length_map] at h1
  have h2 : (p.map fun x => epKey (epAt l x.1)).Nodup ↔ (p.map fun x => epAt l x.1).Nodup := by
    unfold List.Nodup
    rw [List.pairwise_map, List.pairwise_map]
    exact ⟨fun k => k.imp fun {a b} z e => z (by rw [e]), fun k => k.imp fun {a b} z e => z (epKey_inj2 e)⟩
  rw [← h2, ← h1]
  exact ⟨fun e => by omega, fun e => by omega⟩
def LnJ {α : Type} (as : List α) (f : α → List Key) (st : Store) (i : Nat) (acc : List (List Key)) (st' : Store) : Prop := st' = st ∧ acc = (as.take i).map f
theorem len_pure {α : Type} {g : DG} {tt : DT} {te : DE} {vs : List Nat} {xs : List Sv} {Δ : List Sv} {st : Store} {ok : OK} (as : List α) (e : α → Dt) (f : α → List Key) (hx : xs = as.map fun a => .dat (e a)) (hl : as.length < 63)
    (hb : ∀ (i : Nat) (a : α) (acc : List (List Key)), as[i]? = some a → LnJ as f st i acc st → g (.dat (e a)) (wipeD Δ vs) st fun Δ2 st2 => tt Δ2 st2 (fun b st3 => (b = true → te Δ2 st3 (fun y st4 => ∃ dy k, y = .dat dy ∧ keyT dy = some k ∧ LnJ as f st (i + 1) (acc ++ [k]) st4) fun _ _ => False) ∧ (b = false → LnJ as f st (i + 1) acc st3)) fun _ _ => False)
    (hk : ∀ L : List (List Key), L.Nodup → (∀ k, k ∈ L ↔ k ∈ as.map f) → ok (.dat (.int (L.length : Nat))) st) : lenD g tt te vs xs Δ st ok := by
  subst hx
  rw [lenD_eq]
  refine ⟨by rw [List.length_map]; exact hl, LnJ as f st, ⟨rfl, rfl⟩, ?_, ?_⟩
  · rintro i d acc st' hd hJ
    obtain ⟨rfl, _⟩ := id hJ
    rw [List.getElem?_map] at hd
    cases ea : as[i]? with
    | none => rw [ea] at hd; cases hd
    | some a =>
      rw [ea] at hd
      cases hd
      exact hb i a acc ea hJ
  · rintro acc st' ⟨rfl, rfl⟩ L nd hm
    rw [List.length_map, List.take_length] at hm
    exact hk L nd hm
theorem len_yes {α : Type} {as : List α} {f : α → List Key} {st : Store} {i : Nat} {a : α} {acc : List (List Key)} {d : Dt} (ha : as[i]? = some a) (J : LnJ as f st i acc st) (hk : keyT d = some (f a)) : ∃ dy k, Sv.dat d = .dat dy ∧ keyT dy = some k ∧ LnJ as f st (i + 1) (acc ++ [k]) st := by
  refine ⟨d, f a, rfl, hk, rfl, ?_⟩
  rw [J.2, List.take_succ, ha]
  simp
end SP
namespace SP
open PySem PySem.Spec PyProof.Rows L2 DD
structure Over (pool : List Str) (q : Plan) : Prop where
  nd : (q.map (·.1)).Nodup
  sub : ∀ x ∈ q, x.1 ∈ pool
theorem Over.len {pool : List Str} {q : Plan} (h : Over pool q) : q.length ≤ pool.length := by
  have := h.nd.length_le_of_subset (l₂ := pool) (fun n hn => by
    obtain ⟨x, hx, rfl⟩ := List.mem_map.mp hn
    exact h.sub x hx)
  rwa [List.length_map] at this
end SP
namespace DD
open PySem PySem.Spec PyProof.Rows L2
def gSum : GC := fun xs st ok => match xs with
  | [x] => withL x st fun ys => ∃ ns : List Int, ys = ns.map (fun n => Sv.dat (.int n)) ∧ ok (.dat (.int ns.sum)) st
  | _ => False
theorem ints_of {K : PySem.W.Frag} {I : Hp} : ∀ {ns : List Int} {vs : List V}, IsSs K I (ns.map fun n => Sv.dat (.int n)) vs → vs = ns.map V.int
  | [], _, .nil => rfl
  | n :: ns, _, .cons (.dat (.int _)) t => by rw [List.map_cons, ints_of t]
theorem lc_sum {K : PySem.W.Frag} : LRC (K := K) (rSum K) gSum := by
  intro xs st I H ok Q vs wd ix h c
  unfold gSum at h
  split at h
  · obtain ⟨v, rfl, i⟩ := one_arg ix
    obtain ⟨a, us, ys, rfl, hs, hp, ns, rfl, h⟩ := withL_rd wd i h
    obtain rfl := ints_of hp
    exact ⟨a, ns, rfl, hs, c.now wd h (.dat (.int _))⟩
  · exact h.elim
def maxOr (d : Int) : List Int → Int
  | [] => d
  | n :: ns => ns.foldl max n
def rMaxOr (K : PySem.W.Frag) : List V → List V → Hp → VK → Prop := fun vs zs H Q => ∃ (a : Addr) (ns : List Int) (d : Int), vs = [.ref a] ∧ zs = [.int d] ∧ SqL K H a (ns.map V.int) ∧ Q (.int (maxOr d ns)) H
theorem ints_dp {K : PySem.W.Frag} {H : Hp} : ∀ ns : List Int, DpAll K H (ns.map V.int) (ns.map PyData.int)
  | [] => .nil
  | n :: ns => .cons (.int n) (ints_dp ns)
theorem cr_maxOr {X : Cx} (hc : X.calm = true) (hu : X.A.units + 65 < cLine) : CallRK X (.builtin "max") ["default"] (rMaxOr X.K) := by
  intro pins s σ H xs zs us ws Q I rx rz h
  obtain ⟨a, ns, d, rfl, rfl, hs, q⟩ := h
  obtain ⟨its, rv, hl, hz⟩ := I.list hs
  rw [Vals.ref1 rx]
  obtain ⟨w, hw⟩ : ∃ w, ws = [w] ∧ RelV (.int d) w := by
    cases rz with
    | cons r t => cases t; exact ⟨_, rfl, r⟩
  obtain ⟨rfl, rw_⟩ := hw
  obtain ⟨as, hr⟩ := Dp.readsAll I _ _ _ (ints_dp ns) rv
  have hal : PySem.W.AlikeAll (ns.map PyData.int) := by
    refine ⟨fun x hx y hy => ?_, fun x hx => ?_⟩
    · obtain ⟨m, _, rfl⟩ := List.mem_map.mp hx
      obtain ⟨n, _, rfl⟩ := List.mem_map.mp hy
      simp [PySem.W.alike]
    · obtain ⟨m, _, rfl⟩ := List.mem_map.mp hx
      exact fun z => by cases z
  refine PySem.W.max_list_default (xs := ns.map .int) (I.ok.hd hc) hl.isList hr hal (by rw [PySem.W.depth_ints]; omega) (fun h0 h' tk hk => ?_) fun y ys i v h' tk bs e hv hrd hk => ?_
  · have : ns = [] := by cases ns with | nil => rfl | cons n ns => cases h0
    subst this
    exact ⟨.int d, H, I.kept hk, rw_, q⟩
  · cases ns with
    | nil => cases e
    | cons n ns =>
      cases e
      rw [PySem.W.maxD_ints] at hrd
      cases hrd
      exact ⟨.int _, H, I.kept hk, ⟨_, rfl⟩, q⟩
theorem PK.imp {X : Cx} {kws : List Keyword} {t t' : TA} (h : PK X kws t) (i : ∀ σ H Q, t' σ H Q → t σ H Q) : PK X kws t' := ⟨fun pos pins s σ H Q I q => h.run pos pins s σ H Q I (i σ H Q q)⟩
def dMaxOr (ta tk : DA) : DE := fun Δ st ok ex => ta Δ st (fun xs st1 => tk Δ st1 (fun zs st2 => match xs, zs with
  | [x], [.dat (.int d)] => withL x st2 fun ys => ∃ ns : List Int, ys = ns.map (fun n => Sv.dat (.int n)) ∧ ok (.dat (.int (maxOr d ns))) st2
  | _, _ => False) ex) ex
theorem low_maxOr {K : PySem.W.Frag} {W : WX} {ta tk : DA} : ∀ σ H Q, low K (dMaxOr ta tk) W σ H Q → tCKw (rMaxOr K) (lowA K ta W) (lowA K tk W) σ H Q := by
  rintro σ H Q ⟨Δ, st, I, ok, ex, wd, sl, h, c, cx⟩
  refine lowA_go wd sl h (fun xs st1 vs I1 H1 h1 w1 s1 i1 => ?_) cx
  refine lowA_go w1 (sl.mono s1.ii) h1 (fun zs st2 us I2 H2 h2 w2 s2 i2 => ?_) (cx.go s1)
  split at h2
  · rename_i x d
    obtain ⟨v, rfl, i⟩ := one_arg i1
    obtain ⟨u, rfl, iu⟩ := one_arg i2
    cases iu with
    | dat hu =>
      cases hu
      obtain ⟨a, ws, ys, rfl, hs, hp, ns, rfl, h3⟩ := withL_rd w2 (i.mono s2.ii) h2
      obtain rfl := ints_of hp
      exact ⟨a, ns, d, rfl, rfl, hs, c _ _ _ _ _ h3 w2 (s1.trans s2) (.dat (.int _))⟩
  · exact h2.elim
theorem dmaxOr {X : Cx} {W : WX} {e d : Expr} {p pos kpos : Pos} {te td : DE} {kk : Nat} (hr : Room kk X.A) (hm : X.mg "max" = none) (ha : PEd X W e te) (hd : PEd X W d td) (hc : X.calm = true := by rfl) (hg : Gl X "max" := by rfl)
    (hs : starEach [e] X.env = (false, eval e X.env) :: starEach [] X.env := by rfl) (he : backTo pos (starEach [e] X.env) = (false, eval e X.env) :: backTo pos (starEach [] X.env) := by rfl) (hpl : (backTo pos (starEach [e] X.env)).any (·.1) = false := by rfl)
    (hall : (backToKw pos (keywordEach [⟨some "default", d, kpos⟩] X.env)).all (·.1.isSome) = true := by rfl) (hnone : (backToKw pos (keywordEach [⟨some "default", d, kpos⟩] X.env)).any (·.1.isNone) = false := by rfl) (hks : (backToKw pos (keywordEach [⟨some "default", d, kpos⟩] X.env)).filterMap (·.1) = [Str.ofString "default"] := by rfl) :
    PEd X W (.Call (.Name "max" p) [e] [⟨some "default", d, kpos⟩] pos) (dMaxOr (dCons te dNil) (dCons td dNil)) :=
  PE.imp (pe_callBK (cr_maxOr hc (hu65 hr)) hg hm PyProof.Rows.boot_max (acons ha anil hs) (PK.imp (pk_cons hd (PK.imp pk_nil lowA_nil)) lowA_cons) (by decide) (by decide) he hpl hall hnone hks) low_maxOr
end DD
namespace SP
open PySem PySem.Spec PyProof.Rows L2 DD
theorem pow10 {m : Nat} (h : m ≤ 10) : 2 ^ m ≤ 1024 := Nat.le_trans (Nat.pow_le_pow_right (by decide) h) (by decide)
theorem subs_few {ns : List Str} (ha : ascN ns) (hl : ns.length ≤ 10) (n : Nat) : (subsN ns n).length ≤ 1024 := by
  have h := (subs_nd str_ord ha n).length_le_of_subset (l₂ := setsU ns) (fun t ht => (sets_mem str_ord ns ha t).mpr ((subs_mem str_ord ns n t).mp ht).2)
  rw [sets_len] at h
  exact Nat.le_trans h (pow10 hl)
theorem lv_few {ns : List Str} (ha : ascN ns) (hl : ns.length ≤ 10) (n : Nat) : (lvU strLt ns n).length ≤ 1024 := by
  have nd : (lvU strLt ns n).Nodup := (lv_pw str_ord ha n).imp fun {a b} h e => lx_ne (o := str_ord) h e
  have h := nd.length_le_of_subset (l₂ := setsU ns) (fun t ht => (sets_mem str_ord ns ha t).mpr ((lv_mem str_ord ns n t).mp ht).2)
  rw [sets_len] at h
  exact Nat.le_trans h (pow10 hl)
/-- subsets of names in their order, as a list or as a tuple -/
def ctSubs : Ct := fun ss st ok _ => ∃ (ns : List Str) (n : Nat), ss = [.dat (namesD ns), dI (n : Int)] ∧ ascN ns ∧ ns.length ≤ 10 ∧ n ≤ 10 ∧ ok (.dat (.lst ((subsN ns n).map nsD))) st
def openAt (ws : List (Str × Win)) (ns : List Str) (m : Int) : List Str := ns.filter fun n => decide ((winOf ws n).1 ≤ m) && decide (m < (winOf ws n).2)
def mostAt (ws : List (Str × Win)) (ns : List Str) : Int := maxOr 0 (ns.map fun n => ((openAt ws ns (winOf ws n).1).length : Int))
structure InW (ws : List (Str × Win)) (ns : List Str) : Prop where
  len : ns.length ≤ 10
  mem : ∀ n ∈ ns, ∃ w, look ws n = some w
@[irreducible] def ctOpen : Ct := fun ss st ok _ => ∃ (ws : List (Str × Win)) (ns : List Str) (m : Int), ss = [.dat (dicD winD ws), .dat (nsD ns), dI m] ∧ InW ws ns ∧ ok (.dat (namesD (openAt ws ns m))) st
theorem ctOpen_eq {ss : List Sv} {st : Store} {ok : OK} {ex : EK} : ctOpen ss st ok ex = ∃ (ws : List (Str × Win)) (ns : List Str) (m : Int), ss = [.dat (dicD winD ws), .dat (nsD ns), dI m] ∧ InW ws ns ∧ ok (.dat (namesD (openAt ws ns m))) st := by unfold ctOpen; rfl
@[irreducible] def ctMost : Ct := fun ss st ok _ => ∃ (ws : List (Str × Win)) (ns : List Str), ss = [.dat (dicD winD ws), .dat (nsD ns)] ∧ InW ws ns ∧ ok (dI (mostAt ws ns)) st
theorem ctMost_eq {ss : List Sv} {st : Store} {ok : OK} {ex : EK} : ctMost ss st ok ex = ∃ (ws : List (Str × Win)) (ns : List Str), ss = [.dat (dicD winD ws), .dat (nsD ns)] ∧ InW ws ns ∧ ok (dI (mostAt ws ns)) st := by unfold ctMost; rfl
def apartN (l : Lst) (t : List Str) : Bool := decide (t.map (epAt l)).Nodup
theorem apartN_len {l : Lst} {t : List Str} {L : List (List Key)} (nd : L.Nodup) (h : ∀ k, k ∈ L ↔ k ∈ t.map fun n => epKey (epAt l n)) : decide ((L.length : Int) = (t.length : Int)) = apartN l t := by
  have := apart_len (l := l) (p := t.map fun n => (n, (0 : Int))) nd (by intro k; rw [h, List.map_map]; rfl)
  rw [List.length_map] at this
  rw [this]
  unfold apart apartN
  rw [List.map_map]
  rfl
@[irreducible] def ctApartN (c : Cl) : Ct := fun ss st ok _ => ∃ (l : Lst) (t : List Str), ss = [.dat (lstD c l), .dat (nsD t)] ∧ LOk l ∧ t.length ≤ 10 ∧ (∀ n ∈ t, ∃ s, (n, s) ∈ l) ∧ ok (.dat (.bl (apartN l t))) st
theorem ctApartN_eq (c : Cl) {ss : List Sv} {st : Store} {ok : OK} {ex : EK} : ctApartN c ss st ok ex = ∃ (l : Lst) (t : List Str), ss = [.dat (lstD c l), .dat (nsD t)] ∧ LOk l ∧ t.length ≤ 10 ∧ (∀ n ∈ t, ∃ s, (n, s) ∈ l) ∧ ok (.dat (.bl (apartN l t))) st := by unfold ctApartN; rfl
def singles (l : Lst) (ns : List Str) : List (List Str) := (subsN ns ns.length).filter (apartN l)
@[irreducible] def ctSingles (c : Cl) : Ct := fun ss st ok _ => ∃ (l : Lst) (ns : List Str), ss = [.dat (lstD c l), .dat (namesD ns)] ∧ LOk l ∧ ascN ns ∧ (∀ n ∈ ns, ∃ s, (n, s) ∈ l) ∧ ok (.dat (.lst ((singles l ns).map nsD))) st
theorem ctSingles_eq (c : Cl) {ss : List Sv} {st : Store} {ok : OK} {ex : EK} : ctSingles c ss st ok ex = ∃ (l : Lst) (ns : List Str), ss = [.dat (lstD c l), .dat (namesD ns)] ∧ LOk l ∧ ascN ns ∧ (∀ n ∈ ns, ∃ s, (n, s) ∈ l) ∧ ok (.dat (.lst ((singles l ns).map nsD))) st := by unfold ctSingles; rfl
theorem asc_ten {l : Lst} (hl : LOk l) {ns : List Str} (ha : ascN ns) (hm : ∀ n ∈ ns, ∃ s, (n, s) ∈ l) : ns.length ≤ 10 := by
  have h := asc_len str_ord ha (ns := l.map (·.1)) (fun n hn => by
    obtain ⟨s, hs⟩ := hm n hn
    exact List.mem_map.mpr ⟨_, hs, rfl⟩)
  rw [List.length_map] at h
  exact Nat.le_trans h hl.len
def choicesIn (b : Bk) (l : Lst) (k : Nat) : List (List Str) := (singles l (wn b l)).filter fun t => decide (mostAt (windows b l) t ≤ (k : Int))
def ctAmongC (c : Cl) : Ct := fun ss st ok _ => ∃ (b : Bk) (l : Lst) (k : Nat), ss = [.dat (lstD c l), .dat (dicD winD (windows b l)), dI (k : Int)] ∧ BOk b ∧ LOk l ∧ ok (.dat (.lst ((choicesIn b l k).map nsD))) st
def ctChoices (c : Cl) : Ct := ctBL c (fun k : Nat => [dI (k : Int)]) (fun _ _ k => 1 ≤ k ∧ k ≤ 10) fun b l k => .lst ((choicesIn b l k).map nsD)
theorem wn_asc {b : Bk} {l : Lst} (hl : LOk l) : ascN (wn b l) := by
  have h := asc_names hl
  unfold ascN Asc at h ⊢
  rw [List.pairwise_map] at h ⊢
  unfold wished
  rw [List.pairwise_filterMap]
  refine h.imp fun {x y} k u hu v hv => ?_
  cases hx : ruleFor b x.2 with
  | none => rw [hx] at hu; cases hu
  | some r =>
    rw [hx] at hu
    cases hu
    cases hy : ruleFor b y.2 with
    | none => rw [hy] at hv; cases hv
    | some r' =>
      rw [hy] at hv
      cases hv
      exact k
end SP
namespace SP
open PySem PySem.Spec PyProof.Rows L2 DD
def prioAt (b : Bk) (l : Lst) (n : Str) : Int := match wiOf b l n with
  | some w => w.r.priority
  | none => 0
theorem prioAt_is {b : Bk} {l : Lst} (hl : LOk l) {w : Wi} (hw : w ∈ wished b l) : prioAt b l w.n = w.r.priority := by
  unfold prioAt wiOf
  have nd := wn_nd (b := b) hl
  have h : (wished b l).find? (fun x => decide (x.n = w.n)) = some w := by
    have key : ∀ ws : List Wi, (ws.map (·.n)).Nodup → w ∈ ws → ws.find? (fun x => decide (x.n = w.n)) = some w := by
      intro ws
      induction ws with
      | nil => intro _ h; cases h
      | cons a ws ih =>
        intro nd hm
        rw [List.find?_cons]
        by_cases e : a.n = w.n
        · rw [decide_eq_true e]
          rcases List.mem_cons.mp hm with rfl | hm
          · rfl
          · exact absurd (List.mem_map.mpr ⟨w, hm, e.symm⟩) (List.nodup_cons.mp nd).1
        · rw [decide_eq_false e]
          rcases List.mem_cons.mp hm with rfl | hm
          · exact absurd rfl e
          · exact ih (List.nodup_cons.mp nd).2 hm
    exact key _ nd hw
  rw [h]
def worthOf (b : Bk) (l : Lst) (t : List Str) : Int := (t.map (prioAt b l)).sum
@[irreducible] def ctWorth (c : Cl) : Ct := fun ss st ok _ => ∃ (b : Bk) (l : Lst) (t : List Str), ss = [.dat (b.d c), .dat (lstD c l), .dat (nsD t)] ∧ BOk b ∧ LOk l ∧ t.length ≤ 10 ∧ (∀ n ∈ t, n ∈ wn b l) ∧ ok (dI (worthOf b l t)) st
theorem ctWorth_eq (c : Cl) {ss : List Sv} {st : Store} {ok : OK} {ex : EK} : ctWorth c ss st ok ex = ∃ (b : Bk) (l : Lst) (t : List Str), ss = [.dat (b.d c), .dat (lstD c l), .dat (nsD t)] ∧ BOk b ∧ LOk l ∧ t.length ≤ 10 ∧ (∀ n ∈ t, n ∈ wn b l) ∧ ok (dI (worthOf b l t)) st := by unfold ctWorth; rfl
theorem choices_in {b : Bk} {l : Lst} (hl : LOk l) {k : Nat} {t : List Str} (h : t ∈ choicesIn b l k) : t.length ≤ 10 ∧ ∀ n ∈ t, n ∈ wn b l := by
  unfold choicesIn singles at h
  have h := (List.mem_filter.mp (List.mem_filter.mp h).1).1
  obtain ⟨h1, h2, h3⟩ := (subs_mem str_ord _ _ t).mp h
  refine ⟨Nat.le_trans h1 ?_, h3⟩
  refine asc_ten hl (wn_asc hl) fun n hn => ?_
  obtain ⟨w, hw, rfl⟩ := List.mem_map.mp hn
  exact ⟨w.s, (wished_mem.mp hw).1⟩
theorem choices_few {b : Bk} {l : Lst} (hl : LOk l) (k : Nat) : (choicesIn b l k).length ≤ 1024 := by
  unfold choicesIn singles
  refine Nat.le_trans (List.length_filter_le _ _) (Nat.le_trans (List.length_filter_le _ _) (subs_few (wn_asc hl) ?_ _))
  refine asc_ten hl (wn_asc hl) fun n hn => ?_
  obtain ⟨w, hw, rfl⟩ := List.mem_map.mp hn
  exact ⟨w.s, (wished_mem.mp hw).1⟩
/-- nothing chosen is always a choice -/
theorem choices_nil (b : Bk) (l : Lst) (k : Nat) : [] ∈ choicesIn b l k := by
  unfold choicesIn singles
  refine List.mem_filter.mpr ⟨List.mem_filter.mpr ⟨?_, by unfold apartN; simp⟩, decide_eq_true (show (0 : Int) ≤ k by omega)⟩
  exact (subs_mem str_ord _ _ []).mpr ⟨Nat.zero_le _, by simp, by simp⟩
theorem strs_alike : ∀ a b : List Str, PySem.W.alikeAll (a.map PyData.str) (b.map PyData.str) = true := al_all str_enc
end SP
namespace SP
open PySem PySem.Spec PyProof.Rows L2 DD
end SP
namespace SP
open PySem PySem.Spec PyProof.Rows L2 DD
theorem ints_alike (rs : List Int) : PySem.W.AlikeAll (rs.map PyData.int) := by
  refine ⟨fun x hx y hy => ?_, fun x hx => ?_⟩
  · obtain ⟨a, _, rfl⟩ := List.mem_map.mp hx
    obtain ⟨c, _, rfl⟩ := List.mem_map.mp hy
    simp [PySem.W.alike]
  · obtain ⟨a, _, rfl⟩ := List.mem_map.mp hx
    exact fun z => by cases z
end SP
namespace SP
open PySem PySem.Spec PyProof.Rows L2 DD
abbrev leD : PyData → PyData → Bool := PySem.W.dataLe false id
theorem leD_of {a b : PyData} (h : PySem.W.dataLt b a = false) : leD a b = true := by
  unfold leD
  rw [PySem.W.dataLe_eq]
  dsimp only [cond, id]
  rw [h]
  rfl
theorem leD_lt {a b : PyData} (h : PySem.W.dataLt a b = true) : leD a b = true := by
  have h2 := data_total (id : PyData → PyData) a b
  rw [Bool.or_eq_true] at h2
  rcases h2 with h2 | h2
  · exact h2
  · rw [PySem.W.dataLe_eq] at h2
    dsimp only [cond, id] at h2
    rw [h] at h2
    cases h2
theorem leD_refl (a : PyData) : leD a a = true := by
  have h2 := data_total (id : PyData → PyData) a a
  rw [Bool.or_self] at h2
  exact h2
theorem minD_least : ∀ (xs : List PyData) (x : PyData), leD (PySem.W.minD x xs) x = true ∧ ∀ y ∈ xs, leD (PySem.W.minD x xs) y = true
  | [], x => ⟨leD_refl x, fun y hy => by cases hy⟩
  | a :: xs, x => by
    have e : PySem.W.minD x (a :: xs) = PySem.W.minD (if PySem.W.dataLt a x = true then a else x) xs := rfl
    rw [e]
    obtain ⟨h1, h2⟩ := minD_least xs (if PySem.W.dataLt a x = true then a else x)
    by_cases c : PySem.W.dataLt a x = true
    · rw [if_pos c] at h1 h2 ⊢
      refine ⟨data_trans _ _ _ _ h1 (leD_lt c), fun y hy => ?_⟩
      rcases List.mem_cons.mp hy with rfl | hy
      · exact h1
      · exact h2 y hy
    · rw [if_neg c] at h1 h2 ⊢
      rw [Bool.not_eq_true] at c
      refine ⟨h1, fun y hy => ?_⟩
      rcases List.mem_cons.mp hy with rfl | hy
      · exact data_trans _ _ _ _ h1 (leD_of c)
      · exact h2 y hy
end SP
namespace SP
open PySem PySem.Spec PyProof.Rows L2 DD
end SP
namespace SP
open PySem PySem.Spec PyProof.Rows L2 DD
theorem winOf_mem {ws : List (Str × Win)} (nd : (ws.map (·.1)).Nodup) {x : Str × Win} (hx : x ∈ ws) : winOf ws x.1 = x.2 := by
  unfold winOf
  rw [look_mem nd hx]
  rfl
/-- open_at, its names a tuple or a dict -/
def ctOpenW : Ct := fun ss st ok ex => ctOpen ss st ok ex ∨ ∃ (ws : List (Str × Win)) (m : Int), ss = [.dat (dicD winD ws), .dat (dicD winD ws), dI m] ∧ ws.length ≤ 10 ∧ (ws.map (·.1)).Nodup ∧ ok (.dat (namesD (openAt ws (ws.map (·.1)) m))) st
def freeR (ws : List (Str × Win)) (p : Plan) (w : Win) : Nat := ((List.range 11).find? fun r : Nat => (onRecW ws p (r : Int) w).isEmpty).getD 0
structure SInv (pre : List Str) (p : Plan) : Prop where
  ns : p.map (·.1) = pre
  lt : ∀ x ∈ p, 0 ≤ x.2 ∧ x.2 < (p.length : Int)
theorem SInv.len {pre : List Str} {p : Plan} (h : SInv pre p) : p.length = pre.length := by
  rw [← h.ns, List.length_map]
theorem SInv.free {pre : List Str} {p : Plan} (h : SInv pre p) (hl : p.length ≤ 10) (ws : List (Str × Win)) (w : Win) : freeR ws p w ≤ p.length ∧ onRecW ws p (freeR ws p w : Int) w = [] ∧ ∀ r' : Nat, r' < freeR ws p w → onRecW ws p (r' : Int) w ≠ [] := by
  have hout : onRecW ws p (p.length : Int) w = [] := on_out fun x hx => (h.lt x hx).2
  have key : ∃ r, (List.range 11).find? (fun r : Nat => (onRecW ws p (r : Int) w).isEmpty) = some r := by
    cases e : (List.range 11).find? (fun r : Nat => (onRecW ws p (r : Int) w).isEmpty) with
    | some r => exact ⟨r, rfl⟩
    | none =>
      have := List.find?_eq_none.mp e p.length (List.mem_range.mpr (by omega))
      rw [hout] at this
      exact absurd rfl this
  obtain ⟨r, e⟩ := key
  have hr : freeR ws p w = r := by unfold freeR; rw [e]; rfl
  rw [List.find?_range_eq_some] at e
  obtain ⟨e1, e2, e3⟩ := e
  rw [hr]
  have h0 : ∀ r' : Nat, r' < r → onRecW ws p (r' : Int) w ≠ [] := fun r' hr' z => by
    have := e3 r' hr'
    rw [z] at this
    cases this
  refine ⟨?_, ?_, h0⟩
  · rcases Nat.lt_or_ge p.length r with c | c
    · exact absurd hout (h0 _ c)
    · exact c
  · cases z : onRecW ws p (r : Int) w with
    | nil => rfl
    | cons a as => rw [z] at e1; cases e1
theorem SInv.ok {ws : List (Str × Win)} {pre : List Str} {p : Plan} (h : SInv pre p) (nd : pre.Nodup) (hl : pre.length ≤ 10) (hs : ∀ n ∈ pre, n ∈ ws.map (·.1)) : POk p ∧ ∀ x ∈ p, (look ws x.1).isSome := by
  refine ⟨⟨by rw [h.ns]; exact nd, by rw [h.len]; exact hl⟩, fun x hx => ?_⟩
  obtain ⟨a, ha⟩ := look_is (hs x.1 (by rw [← h.ns]; exact List.mem_map.mpr ⟨x, hx, rfl⟩))
  rw [ha]
  rfl
theorem asc_nodup {t : List Str} (h : ascN t) : t.Nodup := h.imp fun {a b} k e => by subst e; rw [str_ord.ir] at k; cases k
theorem max_or (cs : List Int) (h : ∀ c ∈ cs, 0 ≤ c) : maxOr 0 cs = cs.foldl max 0 := by
  cases cs with
  | nil => rfl
  | cons c cs =>
    unfold maxOr
    rw [List.foldl_cons, Int.max_eq_right (h c List.mem_cons_self)]
end SP
namespace SP
open PySem PySem.Spec PyProof.Rows L2 DD
theorem ints_shaped (ns : List Int) : SeqAt.shaped (.list (ns.map PyData.int)) = true := by
  have h1 : PyData.canLayAll0 (ns.map PyData.int) = true := by
    induction ns with
    | nil => rfl
    | cons n ns ih => rw [List.map_cons, PyData.canLayAll0, ih]; simp [PyData.canLay0]
  have h2 : (PyData.list (ns.map PyData.int)).canLay0 = true := by rw [PyData.canLay0]; exact h1
  have h3 : (PyData.list (ns.map PyData.int)).depth ≤ 64 := by
    rw [PyData.depth]
    have : PyData.depthAll (ns.map PyData.int) = 0 := PySem.W.depth_ints _
    omega
  unfold SeqAt.shaped
  rw [h2, decide_eq_true h3]
  rfl
theorem ints_ofs : ∀ ns : List Int, PyOfs (ns.map Dt.int) (ns.map PyData.int)
  | [] => .nil
  | n :: ns => .cons (.int n) (ints_ofs ns)
end SP
namespace SP
open PySem PySem.Spec PyProof.Rows L2 DD
theorem depth_le {n : Nat} : ∀ {ds : List PyData}, (∀ d ∈ ds, d.depth ≤ n) → PyData.depthAll ds ≤ n
  | [], _ => by rw [PyData.depthAll]; omega
  | d :: ds, h => by
    rw [PyData.depthAll]
    have h1 := h d List.mem_cons_self
    have h2 := depth_le (ds := ds) fun x hx => h x (List.mem_cons_of_mem _ hx)
    omega
end SP
namespace SP
open PySem PySem.Spec PyProof.Rows L2 DD
def Rul.norm (r : Rul) : Rul := { r with show_ := "", first := 0, last := 0 }
def Same (P : Snd → Prop) (b b' : Bk) : Prop := ∀ s, P s → (ruleFor b s).map Rul.norm = (ruleFor b' s).map Rul.norm
theorem Same.seen2 {P : Snd → Prop} {b b' : Bk} (h : Same P b b') (es : List Ep) : Same P (b.seen2 es) (b'.seen2 es) := by
  intro s hp
  have key : ∀ b : Bk, ruleFor (b.seen2 es) s = if s.ep ∈ es then none else ruleFor b s := fun b => by
    unfold ruleFor ruleOf Bk.seen2
    dsimp only
    show (if s.ep ∈ b.seen ++ es then none else _) = if s.ep ∈ es then none else if s.ep ∈ b.seen then none else _
    by_cases z : s.ep ∈ es
    · rw [if_pos z, if_pos (List.mem_append_right _ z)]
    · rw [if_neg z]
      by_cases z2 : s.ep ∈ b.seen
      · rw [if_pos z2, if_pos (List.mem_append_left _ z2)]
      · rw [if_neg z2, if_neg (fun q => (List.mem_append.mp q).elim z2 z)]
  rw [key, key]
  split
  · rfl
  · exact h s hp
def hit (sh : Str) (e : Int) (r : Rul) : Bool := decide (r.show_ = sh) && (decide (r.first ≤ e) && decide (e ≤ r.last))
def Eqv (A B : List Rul) : Prop := ∀ sh e, (A.find? (hit sh e)).map Rul.norm = (B.find? (hit sh e)).map Rul.norm
theorem Eqv.nil : Eqv [] [] := fun _ _ => rfl
theorem Eqv.app {A B C D : List Rul} (h : Eqv A B) (k : Eqv C D) : Eqv (A ++ C) (B ++ D) := fun sh e => by
  rw [List.find?_append, List.find?_append]
  have h1 := h sh e
  have h2 := k sh e
  cases ha : A.find? (hit sh e) with
  | some x =>
    rw [ha] at h1
    cases hb : B.find? (hit sh e) with
    | some y => rw [hb] at h1; exact h1
    | none => rw [hb] at h1; cases h1
  | none =>
    rw [ha] at h1
    cases hb : B.find? (hit sh e) with
    | some y => rw [hb] at h1; cases h1
    | none => exact h2
end SP
namespace SP
open PySem PySem.Spec PyProof.Rows L2 DD
end SP
namespace UU
open PySem PySem.Spec PyProof.Rows L2 DD
section
variable {P : Program} {w : World} {A : Around} {E : Value → Shared → Prop}
theorem Rws.keep {Z : List Key → Addr → Prop} {h h' : Heap} {a : Addr} {ks : List (List Key)} {es : Array (Int × Value)} {ep : Nat} {t : SetTable} (R : Rws P w Z h a ks es ep t) (ha : ∀ o, h.get? a = some o → h'.get? a = some o) (ht : ∀ k b, Z k b → TupAt P w h' k b) : Rws P w Z h' a ks es ep t := by
  obtain ⟨o, ho, r⟩ := R.obj
  exact ⟨⟨o, ha o ho, r⟩, paired_mono (fun k e ⟨b, he, _, hz⟩ => ⟨b, he, ht k b hz, hz⟩) R.ent, R.tab, R.nd, R.room, R.few⟩
end
end UU
namespace UU
open PySem PySem.Spec PyProof.Rows L2 DD
end UU
namespace DD
open PySem PySem.Spec PyProof.Rows L2 UU
end DD
namespace DD
open PySem PySem.Spec PyProof.Rows L2
end DD
namespace DD
open PySem PySem.Spec PyProof.Rows L2
end DD
namespace PySem.SeqAt
open AutoSeq1 (wpAny_loadPart')
open MeetsSeq MeetsSeq2 MeetsSeq3 SeqRoads2
end PySem.SeqAt
namespace DD
open PySem PySem.Spec PyProof.Rows L2
end DD
namespace SP
open PySem PySem.Spec PyProof.Rows L2 DD
theorem Same.symm {P : Snd → Prop} {b b' : Bk} (h : Same P b b') : Same P b' b := fun s hp => (h s hp).symm
end SP
namespace SP
open PySem PySem.Spec PyProof.Rows L2 DD
end SP
namespace SP
open PySem PySem.Spec PyProof.Rows L2 DD
end SP
namespace SP
open PySem PySem.Spec PyProof.Rows L2 DD
theorem choice_of {b : Bk} {l : Lst} (hl : LOk l) {k : Nat} {t : List Str} (ha : ascN t) (hw : ∀ n ∈ t, n ∈ wn b l) (he : (t.map (epAt l)).Nodup) (hm : mostAt (windows b l) t ≤ (k : Int)) : t ∈ choicesIn b l k := by
  unfold choicesIn singles
  refine List.mem_filter.mpr ⟨List.mem_filter.mpr ⟨(subs_mem str_ord _ _ t).mpr ⟨?_, ha, hw⟩, ?_⟩, decide_eq_true hm⟩
  · exact (asc_nodup ha).length_le_of_subset hw
  · unfold apartN
    exact decide_eq_true he
end SP
namespace SP
open PySem PySem.Spec PyProof.Rows L2 DD
structure Seats (b : Bk) (l : Lst) (t : List Str) (p : Plan) : Prop where
  perm : (p.map (·.1)).Perm t
  low : ∀ x ∈ p, 0 ≤ x.2
  few : ∀ x ∈ p, x.2 + 1 ≤ mostAt (windows b l) t
  quiet : ∀ x ∈ p, ∀ y ∈ p, x.1 ≠ y.1 → x.2 = y.2 → overlap (winOf (windows b l) x.1) (winOf (windows b l) y.1) = false
theorem Seats.nd {b : Bk} {l : Lst} {t : List Str} {p : Plan} (h : Seats b l t p) (ht : In l t) : (p.map (·.1)).Nodup := h.perm.nodup_iff.mpr (asc_nodup ht.asc)
theorem Seats.ok {b : Bk} {l : Lst} (hl : LOk l) {t : List Str} {p : Plan} (h : Seats b l t p) (ht : In l t) : POk p := ⟨h.nd ht, by
  have h1 := h.perm.length_eq
  rw [List.length_map] at h1
  rw [h1]
  have := (asc_nodup ht.asc).length_le_of_subset ht.mem
  rw [List.length_map] at this
  exact Nat.le_trans this hl.len⟩
theorem choice_asc {b : Bk} {l : Lst} {k : Nat} {t : List Str} (h : t ∈ choicesIn b l k) : ascN t := ((subs_mem str_ord _ _ t).mp (List.mem_filter.mp (List.mem_filter.mp h).1).1).2.1
end SP
namespace DD
open PySem PySem.Spec PyProof.Rows L2
end DD
namespace SP
open PySem PySem.Spec PyProof.Rows L2 DD
abbrev Sz := List (Str × Int)
def mins (sz : Sz) (ns : List Str) : Int := (ns.map fun n => (look sz n).getD 0).sum
def isIn (t : List Str) (n : Str) : Bool := decide (n ∈ t)
structure Dk where
  kept : List Str
  del : List Str
  ref : List Str
/-- room is made: the first that is not safe goes -/
def evict (sz : Sz) (t : List Str) (m s : Int) : Nat → List Str × List Str → List Str × List Str
  | 0, x => x
  | n + 1, x => if m < mins sz x.1 + s then match x.1.filter fun o => !isIn t o with
    | [] => x
    | e :: _ => evict sz t m s n (x.1.erase e, x.2 ++ [e])
    else x
def dkStep (sz : Sz) (t : List Str) (m : Int) (a : Dk) (x : Str × Int) : Dk :=
  if m - mins sz (a.kept.filter (isIn t)) < x.2 then ⟨a.kept, a.del, a.ref ++ [x.1]⟩
  else ⟨(evict sz t m x.2 a.kept.length (a.kept, a.del)).1 ++ [x.1], (evict sz t m x.2 a.kept.length (a.kept, a.del)).2, a.ref⟩
structure SzOk (sz : Sz) : Prop where
  nd : (sz.map (·.1)).Nodup
  len : sz.length ≤ 10
  pos : ∀ x ∈ sz, 1 ≤ x.2
  word : ∀ x ∈ sz, isWord x.1 = true
theorem SzOk.look {sz : Sz} (h : SzOk sz) {x : Str × Int} (hx : x ∈ sz) : SP.look sz x.1 = some x.2 := look_mem h.nd hx
theorem mins_cons (sz : Sz) (n : Str) (ns : List Str) : mins sz (n :: ns) = (look sz n).getD 0 + mins sz ns := by
  unfold mins
  rw [List.map_cons, List.sum_cons]
theorem mins_all {sz : Sz} (t : List Str) : ∀ ns : List Str, (ns.filter fun o => !isIn t o) = [] → mins sz (ns.filter (isIn t)) = mins sz ns
  | [], _ => rfl
  | n :: ns, h => by
    rw [List.filter_cons] at h
    cases hn : isIn t n with
    | true =>
      rw [hn] at h
      rw [List.filter_cons, hn, if_pos rfl, mins_cons, mins_cons, mins_all t ns h]
    | false =>
      rw [hn] at h
      cases h
/-- the state of the disk while it is walked -/
structure DkI (sz : Sz) (pre : Sz) (a : Dk) : Prop where
  kept : a.kept.Sublist (pre.map (·.1))
  len : a.kept.length + a.del.length + a.ref.length = pre.length
  del : ∀ n ∈ a.del, n ∈ pre.map (·.1)
  ref : ∀ n ∈ a.ref, n ∈ pre.map (·.1)
theorem evict_stop {sz : Sz} {t : List Str} {m s : Int} {n : Nat} {kept del : List Str} (h : ¬ m < mins sz kept + s) : evict sz t m s n (kept, del) = (kept, del) := by
  cases n with
  | zero => rfl
  | succ n => rw [evict, if_neg h]
/-- the invariant of making room -/
structure EvI (sz pre : Sz) (t : List Str) (m s : Int) (a : Dk) (n : Nat) (kept del : List Str) : Prop where
  len : kept.length = n
  out : evict sz t m s n (kept, del) = evict sz t m s a.kept.length (a.kept, a.del)
  sub : kept.Sublist (pre.map (·.1))
  dl : kept.length + del.length + a.ref.length = pre.length
  fits : s ≤ m - mins sz (kept.filter (isIn t))
  del : ∀ n ∈ del, n ∈ pre.map (·.1)
theorem EvI.start {sz pre : Sz} {t : List Str} {m s : Int} {a : Dk} (h : DkI sz pre a) (hs : ¬ m - mins sz (a.kept.filter (isIn t)) < s) : EvI sz pre t m s a a.kept.length a.kept a.del := ⟨rfl, rfl, h.kept, h.len, by omega, h.del⟩
theorem EvI.first {sz pre : Sz} {t : List Str} {m s : Int} {a : Dk} {n : Nat} {kept del : List Str} (h : EvI sz pre t m s a n kept del) (hlt : m < mins sz kept + s) : ∃ e es, (kept.filter fun o => !isIn t o) = e :: es ∧ e ∈ kept := by
  cases he : kept.filter fun o => !isIn t o with
  | nil =>
    have := mins_all (sz := sz) t kept he
    have := h.fits
    omega
  | cons e es => exact ⟨e, es, rfl, (List.mem_filter.mp (show e ∈ kept.filter fun o => !isIn t o by rw [he]; exact List.mem_cons_self)).1⟩
theorem EvI.done {sz pre : Sz} {t : List Str} {m : Int} {x : Str × Int} {a : Dk} (hr : ∀ n ∈ a.ref, n ∈ pre.map (·.1)) (hs : ¬ m - mins sz (a.kept.filter (isIn t)) < x.2) {n : Nat} {kept del : List Str} (h : EvI sz pre t m x.2 a n kept del) (hge : ¬ m < mins sz kept + x.2) : dkStep sz t m a x = ⟨kept ++ [x.1], del, a.ref⟩ ∧ DkI sz (pre ++ [x]) (dkStep sz t m a x) := by
  have e : dkStep sz t m a x = ⟨kept ++ [x.1], del, a.ref⟩ := by
    unfold dkStep
    rw [if_neg hs, ← h.out, evict_stop hge]
  refine ⟨e, ?_⟩
  rw [e]
  have hsub : ∀ n ∈ pre.map (·.1), n ∈ (pre ++ [x]).map (·.1) := fun n hn => by rw [List.map_append]; exact List.mem_append_left _ hn
  refine ⟨?_, ?_, fun n hn => hsub n (h.del n hn), fun n hn => hsub n (hr n hn)⟩
  · rw [List.map_append]
    exact h.sub.append (List.Sublist.refl _)
  · have := h.dl
    rw [List.length_append, List.length_singleton, List.length_append, List.length_singleton]
    dsimp only
    omega
end SP
namespace DD
open PySem PySem.Spec PyProof.Rows L2
end DD
namespace DD
open PySem PySem.Spec PyProof.Rows L2
end DD
namespace SP
open PySem PySem.Spec PyProof.Rows L2 DD
theorem foldl_max_le {m : Int} : ∀ (xs : List Int) (a : Int), xs.foldl max a ≤ m ↔ a ≤ m ∧ ∀ z ∈ xs, z ≤ m
  | [], a => by simp
  | x :: xs, a => by
    rw [List.foldl_cons, foldl_max_le xs]
    simp only [List.mem_cons, forall_eq_or_imp, Int.max_le, and_assoc]
end SP
namespace DD
open PySem PySem.Spec PyProof.Rows L2
def dPopAt (to te : DE) : DE := fun Δ st ok ex => to Δ st (fun o st1 => match o with
  | .own p => (∃ (j : Nat) (xs : List Sv), st1[j]? = some (p, Ob.lst xs)) ∧ te Δ st1 (fun y st2 => match y with
    | .dat (.int i) => ∃ (j : Nat) (xs : List Sv) (k : Nat) (s : Sv), st2[j]? = some (p, Ob.lst xs) ∧ -(2 ^ 63) ≤ i ∧ i < 2 ^ 63 ∧ seqIndex? i xs.length = some k ∧ xs[k]? = some s ∧ ok s (st2.set j (p, .lst (xs.eraseIdx k)))
    | _ => False) ex
  | _ => False) ex
theorem iss_erase {K : PySem.W.Frag} {I : Hp} : ∀ {xs : List Sv} {vs : List V} (k : Nat), IsSs K I xs vs → IsSs K I (xs.eraseIdx k) (vs.eraseIdx k)
  | _, _, _, .nil => .nil
  | _, _, 0, .cons a r => r
  | _, _, k + 1, .cons a r => .cons a (iss_erase k r)
theorem iss_get {K : PySem.W.Frag} {I : Hp} : ∀ {xs : List Sv} {vs : List V} {k : Nat} {s : Sv}, IsSs K I xs vs → xs[k]? = some s → ∃ v, vs[k]? = some v ∧ IsS K I s v
  | _, _, k, _, .nil, h => by simp at h
  | _, _, 0, _, .cons a r, h => by cases h; exact ⟨_, rfl, a⟩
  | _ :: _, _ :: _, k + 1, _, .cons a r, h => iss_get (k := k) r h
theorem low_popAt {K : PySem.W.Frag} {W : WX} {to te : DE} : ∀ σ H Q, low K (dPopAt to te) W σ H Q → tBM K "list" rPopAt (low K to W) (tCons (low K te W) tNil) σ H Q := by
  rintro σ H Q ⟨Δ, st, I, ok, ex, wd, sl, h, c, cx⟩
  refine low_go wd sl h (fun o st1 ov I1 H1 h1 w1 s1 i1 => ?_) cx
  cases i1 with
  | dat hd => exact h1.elim
  | own p =>
    obtain ⟨⟨j, xs, hj⟩, h1⟩ := h1
    obtain ⟨u, hu, io⟩ := own_at w1 hj
    cases io with
    | @lst _ us hs =>
      refine ⟨.inl ⟨rfl, us, .inl (.inl hu)⟩, low_go w1 (sl.mono s1.ii) h1 (fun v st2 vv I2 H2 h2 w2 s2 i2 => ?_) (cx.go s1)⟩
      cases i2 with
      | own q => exact h2.elim
      | dat hy =>
        cases hy with
        | int i =>
          obtain ⟨j2, xs2, k, s, hj2, h3, h4, hk, hs2, hn⟩ := h2
          obtain ⟨u2, hu2, io2⟩ := own_at w2 hj2
          cases io2 with
          | @lst _ us2 is2 =>
            obtain ⟨y, hy, iy⟩ := iss_get is2 hs2
            obtain ⟨w3, s3⟩ := set_own (o' := .lst (us2.eraseIdx k)) w2 hj2 (.lst (iss_erase k is2))
            exact ⟨p, us2, i, k, y, rfl, rfl, hu2, h3, h4, by rw [← paired_len is2]; exact hk, hy, c _ _ _ _ _ hn w3 ((s1.trans s2).trans s3) iy⟩
        | _ => exact h2.elim
theorem dpopAt {X : Cx} {W : WX} {o e : Expr} {apos pos : Pos} {to te : DE} (ho : PEd X W o to) (he : PEd X W e te) (hbase : attributeBase o "pop" X.env (eval o X.env) = eval o X.env := by rfl)
    (hfew : ((backTo pos (starEach [e] X.env)).all (fun x => !x.1) && (backToKw pos (keywordEach [] X.env)).all (fun x => x.1.isSome)
      && decide (([e] : List Expr).length + ([] : List Keyword).length + (if ([] : List Keyword).isEmpty then 0 else 1) < 30)) = true := by rfl)
    (hline : (apos.endLine == pos.line) = true := by rfl) (hs : starEach [e] X.env = (false, eval e X.env) :: starEach [] X.env := by rfl) (hplain : (backTo pos (starEach [] X.env)).any (·.1) = false := by rfl) : PEd X W (.Call (.Attribute o "pop" apos) [e] [] pos) (dPopAt to te) :=
  PE.imp (pe_bm PySem.F.plainAttrs_list PySem.F.slot_list_pop PySem.F.type_list_pop mt_popAt ho (pa_cons he pa_nil hs) hbase hfew hline hs hplain) low_popAt
def rCountD (K : PySem.W.Frag) : V → List V → Hp → VK → Prop := fun x xs H Q => ∃ (a : Addr) (y : V) (d : PyData) (ds : List PyData), x = V.ref a ∧ xs = [y] ∧ Dp K H (V.ref a) (.list ds) ∧ Dp K H y d ∧
  SeqAt.shaped (.list ds) = true ∧ SeqAt.shaped d = true ∧ Q (.int (ds.countP (fun z => PyData.eqv z d) : Nat)) H
theorem mt_countD {X : Cx} (hu : X.A.units + 65 < cLine) : MtR X "list.count" (rCountD X.K) := by
  intro pins s σ H x xs v us Q I rx rxs h
  obtain ⟨a, y, d, ds, rfl, rfl, hl, hy, sl, sd, q⟩ := h
  cases rx
  cases rxs with
  | cons ry rt =>
    rename_i uy ut
    cases rt
    obtain ⟨bs, r1⟩ := Dp.reads I d y uy hy ry
    have hxs : PyData.canLayAll0 ds = true := SeqAt.canLay_of_shaped sl
    have hroom : X.A.units + 1 + min (PyData.depthAll ds) d.depth < cLine := room_in_shaped sd hu
    cases hl with
    | lst hs ha =>
      obtain ⟨its, rv, ⟨⟨cls, dd, data, sls⟩, n, ho, hc, hdn, hdt⟩, hlen⟩ := I.list hs
      simp only at hc hdt
      subst hc hdt
      obtain ⟨as, h4⟩ := Dp.readsAll I ds _ its ha rv
      have hmap : its.map (SeqAt.readOf s.heap) = ds := SeqAt.readsAll_map ds its as hxs h4
      refine call_meets PySem.F.slot_list_count ⟨_, ho, rfl⟩ PySem.F.entry_list_count (PySem.F.args_list_count_2 _ _)
        (SeqAt.list_countAt a its.toArray n dd sls uy (fun u => PyData.eqv (SeqAt.readOf s.heap u) d)) ⟨ho, SeqAt.items_eqAt (vs := its.toArray) (show ReadsAll s.heap its.toArray.toList ds as from h4) r1 hxs (SeqAt.canLay_of_shaped sd) hroom, ?_⟩
      have ec : its.toArray.toList.countP (fun u => PyData.eqv (SeqAt.readOf s.heap u) d) = ds.countP (fun z => PyData.eqv z d) := by
        rw [← hmap, List.countP_map]
        rfl
      refine ⟨.int (ds.countP (fun z => PyData.eqv z d) : Nat), H, I.tok _, ⟨s.toks, ?_⟩, q⟩
      show Value.int ((its.toArray.toList.countP (fun u => PyData.eqv (SeqAt.readOf s.heap u) d) : Nat) : Int) s.toks = Value.int ((ds.countP (fun z => PyData.eqv z d) : Nat) : Int) s.toks
      rw [ec]
def dCount (to te : DE) : DE := fun Δ st ok ex => to Δ st (fun x st1 => match x with
  | .dat (.lst es) => te Δ st1 (fun y st2 => match y with
    | .dat d => ∃ (p : PyData) (qs : List PyData), PyOf d p ∧ PyOfs es qs ∧ SeqAt.shaped (.list qs) = true ∧ SeqAt.shaped p = true ∧ ok (.dat (.int (qs.countP (fun z => PyData.eqv z p) : Nat))) st2
    | _ => False) ex
  | _ => False) ex
theorem low_count {K : PySem.W.Frag} {W : WX} {to te : DE} : ∀ σ H Q, low K (dCount to te) W σ H Q → tBM K "list" (rCountD K) (low K to W) (tCons (low K te W) tNil) σ H Q := by
  rintro σ H Q ⟨Δ, st, I, ok, ex, wd, sl, h, c, cx⟩
  refine low_go wd sl h (fun x st1 v I1 H1 h1 w1 s1 i1 => ?_) cx
  cases i1 with
  | own p => exact h1.elim
  | dat hd =>
    cases hd with
    | lst a b =>
      refine ⟨.inl ⟨rfl, _, w1.sub.sl (.inl (.inl a))⟩, ?_⟩
      refine low_go w1 (sl.mono s1.ii) h1 (fun y st2 u I2 H2 h2 w2 s2 i2 => ?_) (cx.go s1)
      cases i2 with
      | own p => exact h2.elim
      | dat hy =>
        obtain ⟨p, qs, g1, g2, g3, g4, h2⟩ := h2
        exact ⟨_, u, p, qs, rfl, rfl, .lst (w2.sub.sl (.inl (.inl (s2.ii _ _ a)))) (g2.dp w2 (b.mono s2.ii)), g1.dp w2 hy, g3, g4, (c.go (s1.trans s2)).now w2 h2 (.dat (.int _))⟩
    | _ => exact h1.elim
theorem dcount {X : Cx} {W : WX} {o e : Expr} {apos pos : Pos} {to te : DE} (hu : X.A.units + 65 < cLine) (ho : PEd X W o to) (he : PEd X W e te) (hbase : attributeBase o "count" X.env (eval o X.env) = eval o X.env := by rfl)
    (hfew : ((backTo pos (starEach [e] X.env)).all (fun x => !x.1) && (backToKw pos (keywordEach [] X.env)).all (fun x => x.1.isSome) && decide (([e] : List Expr).length + ([] : List Keyword).length + (if ([] : List Keyword).isEmpty then 0 else 1) < 30)) = true := by rfl)
    (hline : (apos.endLine == pos.line) = true := by rfl) (hs : starEach [e] X.env = (false, eval e X.env) :: starEach [] X.env := by rfl) (hplain : (backTo pos (starEach [] X.env)).any (·.1) = false := by rfl) : PEd X W (.Call (.Attribute o "count" apos) [e] [] pos) (dCount to te) :=
  PE.imp (pe_bm PySem.F.plainAttrs_list PySem.F.slot_list_count PySem.F.type_list_count (mt_countD hu) ho (pa_cons he pa_nil hs) hbase hfew hline hs hplain) low_count
def dIsEV (K : PySem.W.Frag) (a : Addr) (cls : Value) (d : Option Addr) (T : String) (i : Nat) : DE := fun Δ st ok _ =>
  ∃ (D : Addr) (fs : List (Str × Dt)), Δ[i]? = some (.dat (.exc a d D fs)) ∧ cls = .ref D ∧ d = none ∧ ExcC K D ∧ ∃ b, PySem.W.kitOne K (.ref D) (.type T) = some b ∧ ok (.dat (.bl b)) st
theorem diseV {X : Cx} {a : Addr} {oe : Obj} {cls : Value} {d : Option Addr} {pn : List (Addr × Obj)} (K : PySem.W.Frag) (i : Nat) {x y : Str} {T : String} {p p1 p2 pos : Pos} (hm : X.mg "isinstance" = none) (hx : X.mg x = none) (hT : bootBuiltins x = some (.type T)) (hz : Zc cls d oe) (hf : ∃ vs, oe.data = .fields vs)
    (hN : X.N[i]? = some y := by rfl) (hv : Vis X.env.scope y := by first | exact Or.inl rfl | exact Or.inr (Or.inl rfl) | exact Or.inr (Or.inr rfl)) (hg : Gl X "isinstance" := by rfl) (hgx : Gl X x := by rfl) (hn : x ≠ "__name__" := by decide)
    (d1 : (x == ("__debug__" : Str)) = false := by decide) (d2 : (y == ("__debug__" : Str)) = false := by decide) (d3 : (y == ("__classdict__" : Str)) = false := by decide)
    (h1 : starEach [.Name y p1, .Name x p2] (X.suite a ((a, oe) :: pn)).env = (false, eval (.Name y p1) (X.suite a ((a, oe) :: pn)).env) :: starEach [.Name x p2] (X.suite a ((a, oe) :: pn)).env := by rfl)
    (hpl : (backTo pos (starEach [.Name x p2] (X.suite a ((a, oe) :: pn)).env)).any (·.1) = false := by rfl) (hK : X.K = K := by rfl) :
    PEd (X.suite a ((a, oe) :: pn)) W0 (.Call (.Name "isinstance" p) [.Name y p1, .Name x p2] [] pos) (dIsEV K a cls d T i) := by
  subst hK
  refine ⟨fun pins s σ H Q J h => ?_⟩
  obtain ⟨Δ, st, I, ok, ex, wd, sl, ⟨D, fs, hi, ec, ed, hC, b, hk, hok⟩, cn, cx⟩ := h
  subst ec
  subst ed
  rcases sl.2 i _ hi with z | ⟨v, hs, iv⟩
  · cases z
  cases iv with
  | dat hd0 =>
  have ev : v = .ref a := by
    cases hd0 <;> rfl
  subst ev
  refine (pe_callB (X := X.suite a ((a, oe) :: pn)) (call_isE hC hz hf) hg hm PyProof.Rows.boot_isinstance (pa_cons (pe_var (i := i) (pos := p1) hN hv d2 d3) (pa_cons (pe_bltn (v := .ty T) hgx hx hT rfl hn d1) pa_nil) h1) (he := h1) (hpl := hpl)).run pins s σ H Q J ?_
  refine ⟨.ref a, hs, ?_⟩
  exact ⟨.ty T, .type T, b, rfl, fun u r => r, hk, cn.now wd hok (.dat (.bl b))⟩
/-- what a def promises there: nothing is raised in it -/
structure FnC (P : Program) (w : World) (K : PySem.W.Frag) (mg : Str → Option Value) (base : Heap) (k : Nat) (f : Addr) (fd : FuncData) (ps : List Str) (sp : Sp) : Prop where
  len : ∀ vs H Q E, sp vs H Q E → vs.length = ps.length
  run : ∀ (A : Around) (outer : List Env) (s : Shared) (H : Hp) (args : Args) (us : List Value) (vs : List V) (Q : VK) (E : XK) (p : Addr × Obj), L2H.RoomH k A → L2H.PinOk outer H s p → Env0 P w K mg base A outer s H → BindsTo s fd args (ps.zip us) → Vals vs us → sp vs H Q E →
    codeAny (model P w) A (.call (.ref f) args) (CR (L2.CX P w) outer P w H s Q E) s
theorem fn_ofC {P : Program} {w : World} {K : PySem.W.Frag} {mg : Str → Option Value} {base : Heap} {k : Nat} {f : Addr} {name qual : Str} {params : Arguments} {body : List Stmt} {scope : Scope} {dV kV doc pm cdv ct oc : Value} {an od : Option Addr}
    {osl : Array (Option Value)} {N ps : List Str} {sp : Sp} (lk : K.lookup f = some ⟨oc, od, .func (PySem.W.fnOf name qual params body scope dV kV doc pm an cdv ct), osl⟩) (hcd : PySem.W.codeIn K cdv qual = true) (S : FnScope N ps scope)
    (len : ∀ vs H Q E, sp vs H Q E → vs.length = ps.length)
    (hbody : ∀ (A : Around) (outer : List Env) (s : Shared) (H : Hp) (vs : List V) (Q : VK) (E : XK) (p : Addr × Obj), L2H.RoomH k (A.deeper (envOfC qual scope s.heap.objs.size f cdv)) → sp vs H Q E →
      ∃ t, PSs (L2H.cxH (L2.CX P w) P w K mg base N qual scope f cdv A outer s H E p) body t ∧ t { nx := fun _ H' => Q .non H', rt := Q } (L2.start N vs) H) :
    FnC P w K mg base (k + 1) f (PySem.W.fnOf name qual params body scope dV kV doc pm an cdv ct) ps sp := by
  refine ⟨len, fun A outer s H args us vs Q E p hr hpin e0 hb r hsp => ?_⟩
  have hl := len _ _ _ _ hsp
  have KX : K.In s.heap := e0.mod.kin.keeps fun b o e => (e0.bs b o e).1
  have lim : s.heap.NoLimit := e0.mod.nolimit.keeps fun b o e => (e0.bs b o e).1
  have hkind : ∀ y ∈ ps.zip us, scope.names.lookup y.1 = some .local ∨ (scope.names.lookup y.1 = some .cell ∧ ((cellsFrom (s.heap.objs.size + 1) scope.names []).lookup y.1).isSome = true) := fun ⟨n, v⟩ hy => by
    rcases S.par n (List.of_mem_zip hy).1 with q | q
    · exact .inl q
    · exact .inr ⟨q, PySem.W.cellsFrom_some _ _ _ (.inl q)⟩
  refine codeAny_call_function hr.depth (KX _ _ lk) rfl S.co S.gen rfl (PySem.W.codeRec_of KX hcd) (hb _ _ _ _ ?_)
  refine wpAny_newFunctionEnv_cells S.kind hkind fun env he s1 x => ?_
  subst he
  refine ⟨lim.keeps x.toInCall.keep, codeAny_func ?_⟩
  obtain ⟨t, ht, hq⟩ := hbody A outer s H vs Q E p (hr.deeper _) hsp
  have I : L2.Inv (L2H.cxH (L2.CX P w) P w K mg base N qual scope f cdv A outer s H E p) [] (L2.start N vs) H s1 := L2H.inv_startH S hpin e0 hl r x
  refine wpAny_mono (ht.run [] s1 (L2.start N vs) H _ I hq) (fun fl s' hs => ?_) fun e s' hs => hs
  have fin : ∀ {σ' : L2.St} {H' : Hp} {v : V} {u : Value}, L2.Inv (L2H.cxH (L2.CX P w) P w K mg base N qual scope f cdv A outer s H E p) [] σ' H' s' → RelV v u → Q v H' → CE outer P w H s Q u s' :=
    fun {σ' H' v u} J rv q => ⟨v, H', J.os, J.bare, J.base, J.hok, rv, q⟩
  cases fl with
  | ret u =>
    obtain ⟨v, σ', H', J, rv, q⟩ := hs
    exact fin J rv q
  | next =>
    obtain ⟨σ', H', J, q⟩ := hs
    exact fin (v := V.non) (u := Value.none) J rfl q
  | brk =>
    obtain ⟨_, _, _, q⟩ := hs
    exact False.elim q
  | cont =>
    obtain ⟨_, _, _, q⟩ := hs
    exact False.elim q
section
variable {X : Cx} {k : Nat} {f C : Addr} {fd : FuncData} {ps : List Str} {sp : Sp} {E : L2.St → XK} {x m : Str} {q pos apos : Pos} {e o : Expr} {es : List Expr} {ta : TE} {t : TA}
theorem pe_callC {a : Addr} {oe : Obj} {pn : List (Addr × Obj)} (F : FnC X.prog X.w X.K X.mg X.base k f fd ps sp) (hr : L2H.RoomH k X.A) (hg : Gl X x) (hm : X.mg x = some (.ref f)) (hk : PySem.W.keepIn X.K (.ref f) = true) (hb : Binds X.K fd ps [])
    (hx : ∀ σ, PassesAt (L2.CX X.prog X.w) (X.suite a ((a, oe) :: pn)) σ (E σ)) (ha : PA (X.suite a ((a, oe) :: pn)) (e :: es) t) (hdb : (x == ("__debug__" : Str)) = false := by decide)
    (he : starEach (e :: es) (X.suite a ((a, oe) :: pn)).env = (false, eval e (X.suite a ((a, oe) :: pn)).env) :: starEach es (X.suite a ((a, oe) :: pn)).env := by rfl) (hpl : (backTo pos (starEach es (X.suite a ((a, oe) :: pn)).env)).any (·.1) = false := by rfl) :
    PE (X.suite a ((a, oe) :: pn)) (.Call (.Name x q) (e :: es) [] pos) (tCallS sp E t) := by
  refine ⟨fun pins s σ H Q I h => ?_⟩
  refine wpAny_Call_Name_kw (ld_glob (X := X.suite a ((a, oe) :: pn)) I hg hm ?_ hdb)
  refine PySem.W.callWith_K (h₀ := X.base) I.ok.mod.kin hk (thn (ha.run pos pins s σ H _ I h) fun us s1 ⟨vs, H1, I1, r, q⟩ => ⟨I1.kIn, ?_⟩) he hpl
  have hl : us.length = ps.length := by rw [← r.length]; exact F.len _ _ _ _ q
  have b := hb s1 us I1.kIn (by rw [List.append_nil]; exact hl)
  rw [List.append_nil] at b
  have P1 := I1.pin (a, oe) (List.mem_append_left _ List.mem_cons_self)
  have hpin : L2H.PinOk X.stack H1 s1 (a, oe) := ⟨P1.1, P1.2.1, fun hm => (List.mem_cons.mp (I1.stkSub a hm)).elim P1.2.2.1 P1.2.2.2.1, P1.2.2.2.2⟩
  refine wpAny_call (codeAny_mono (F.run (X.suite a ((a, oe) :: pn)).A X.stack s1 H1 ⟨us, []⟩ us vs Q (E σ) (a, oe) ⟨hr.dp, hr.un⟩ hpin I1.env0 b r q) fun r s' hq => ?_)
  cases r with
  | error e => exact hx σ pins H1 s1 e s' I1 hq
  | ok fl =>
    cases fl with
    | ret u => exact I1.after hq
    | next => exact False.elim hq
    | brk => exact False.elim hq
    | cont => exact False.elim hq
end
theorem ends_calmW {K : PySem.W.Frag} {st : Store} {I H : Hp} {ok : OK} {Q : VK} (c : Cont K st I H ok Q) : Ends_ K st I H (calmN (endsOf ok fun _ _ => False)) W0 { nx := fun _ H' => Q .non H', rt := Q } := by
  refine ⟨?_, ?_, ?_, ?_, ?_⟩
  · rintro Δ st' σ' I' H' ⟨st'', hs, h'⟩ w' s' l'
    exact c _ _ _ _ _ h' (wd_drop w' hs) (stp_drop s' hs) (.dat .non)
  · rintro s st' v I' H' ⟨s', st'', hf, h'⟩ w' sp i'
    obtain ⟨I2, w2, s2, i2⟩ := fin_ok w' sp i' hf
    exact c _ _ _ _ _ h' w2 s2 i2
  · intro _ _ _ _ _ h'
    exact h'.elim
  · intro _ _ _ _ _ h'
    exact h'.elim
  · intro _ _ _ _ _ _ _ _ h'
    exact h'.elim
theorem fn_lowC {P : Program} {w : World} {K : PySem.W.Frag} {mg : Str → Option Value} {base : Heap} {x qual : Str} {st : Stmt} {f : Addr} {fd : FuncData} {N ps : List Str} {k : Nat} {ct : Ct} (t : DS) (F : Fun K x qual st f fd) (S : FnScope N ps (defScope st)) (len : ∀ ss st ok ex, ct ss st ok ex → ss.length = ps.length)
    (hsem : ∀ ss st ok ex, ct ss st ok ex → t (ss ++ List.replicate (N.length - ss.length) .un) st (calmN (endsOf ok fun _ _ => False)))
    (hbody : ∀ (cdv : Value) (A : Around) (outer : List Env) (s : Shared) (H : Hp) (E : XK) (p : Addr × Obj), L2H.RoomH k (A.deeper (envOfC qual (defScope st) s.heap.objs.size f cdv)) →
      PBd (L2H.cxH (L2.CX P w) P w K mg base N qual (defScope st) f cdv A outer s H E p) W0 (defBody st) t) :
    FnC P w K mg base (k + 1) f fd ps (lowF K ct) := by
  obtain ⟨oc, od, kV, doc, pm, an, cdv, ctv, osl, rfl, lk, hcd⟩ := F.ex
  refine fn_ofC lk hcd S (fun vs H Q E h => ?_) (fun A outer s H vs Q E p hr h => ?_)
  · obtain ⟨ss, st, I, ok, ex, wd, iv, h, _⟩ := h
    rw [← paired_len iv]
    exact len _ _ _ _ h
  · obtain ⟨ss, st0, I, ok, ex, wd, iv, h, c, cx⟩ := h
    refine ⟨_, hbody cdv A outer s H E p hr, ?_⟩
    exact lowS_go wd (sl_start iv) (hsem _ _ _ _ h) (ends_calmW c)
theorem huH65 {k : Nat} {A : Around} (r : L2H.RoomH k A) : A.units + 65 < cLine := by
  have := r.un
  omega
theorem dcallC {X : Cx} {a : Addr} {oe : Obj} {cls : Value} {d : Option Addr} {pn : List (Addr × Obj)} {k : Nat} {f : Addr} {fd : FuncData} {ps : List Str} {ct : Ct} {x : Str} {q pos : Pos} {e : Expr} {es : List Expr} {t : DA} (F : FnC X.prog X.w X.K X.mg X.base k f fd ps (lowF X.K ct)) (hr : L2H.RoomH k X.A) (hm : X.mg x = some (.ref f)) (hk : PySem.W.keepIn X.K (.ref f) = true) (hb : Binds X.K fd ps [])
    (ha : PAd (X.suite a ((a, oe) :: pn)) W0 (e :: es) t) (hg : Gl X x := by rfl) (hdb : (x == ("__debug__" : Str)) = false := by decide)
    (he : starEach (e :: es) (X.suite a ((a, oe) :: pn)).env = (false, eval e (X.suite a ((a, oe) :: pn)).env) :: starEach es (X.suite a ((a, oe) :: pn)).env := by rfl) (hpl : (backTo pos (starEach es (X.suite a ((a, oe) :: pn)).env)).any (·.1) = false := by rfl) :
    PEd (X.suite a ((a, oe) :: pn)) W0 (.Call (.Name x q) (e :: es) [] pos) (dCall ct [] t) := by
  refine PE.imp (pe_callC (E := WE W0) F hr hg hm hk hb (fun σ pins H s e s' I z => ?_) ha hdb he hpl) fun σ H Q h => ?_
  · obtain ⟨_, _, _, _, _, _, _, _, _, _, _, _, z⟩ := z
    exact z.elim
  · have h2 := low_call (K := X.K) (W := W0) (ct := ct) (dds := []) (dvs := []) (t := t) (fun _ => .nil) σ H Q h
    unfold tCallSD at h2
    simp only [List.append_nil] at h2
    exact h2
end DD
namespace DD
open PySem PySem.Spec PyProof.Rows L2
end DD
namespace SP
open PySem PySem.Spec PyProof.Rows L2 DD
abbrev obB (q : Addr) (s : Int) : Ob := .lst [.own q, dI s]
def ctBegun : Ct := fun ss st ok _ => ∃ (ns : List Int), ss = [.dat (.fls (ns.map Dt.int))] ∧ ns.length ≤ 63 ∧ ∀ p q s, p ≠ q → p ∉ keys st → q ∉ keys st → ok (.own p) ((p, obB q s) :: (q, obX ns) :: st)
@[irreducible] def ctTake : Ct := fun ss st ok _ => ∃ (p q : Addr) (s : Int) (xs : List Int) (lim : Int) (j1 j2 : Nat), ss = [.own p, dI lim] ∧ 0 < lim ∧ lim < 2 ^ 30 ∧ j1 ≠ j2 ∧ st[j1]? = some (p, obB q s) ∧ st[j2]? = some (q, obX xs) ∧ xs.length ≤ 63 ∧
  ∀ n s' xs', 0 ≤ n → n < lim → xs'.length ≤ xs.length → ok (dI n) ((st.set j1 (p, obB q s')).set j2 (q, obX xs'))
theorem ctTake_eq {ss : List Sv} {st : Store} {ok : OK} {ex : EK} : ctTake ss st ok ex = ∃ (p q : Addr) (s : Int) (xs : List Int) (lim : Int) (j1 j2 : Nat), ss = [.own p, dI lim] ∧ 0 < lim ∧ lim < 2 ^ 30 ∧ j1 ≠ j2 ∧ st[j1]? = some (p, obB q s) ∧ st[j2]? = some (q, obX xs) ∧ xs.length ≤ 63 ∧
  ∀ n s' xs', 0 ≤ n → n < lim → xs'.length ≤ xs.length → ok (dI n) ((st.set j1 (p, obB q s')).set j2 (q, obX xs')) := by unfold ctTake; rfl
/-- a draw: the box stands behind pre -/
theorem take_pre (pre : Store) {p q : Addr} {s lim : Int} {xs : List Int} {st : Store} {ok : OK} {ex : EK} (l0 : 0 < lim) (l1 : lim < 2 ^ 30) (hx : xs.length ≤ 63)
    (h : ∀ n s' xs', 0 ≤ n → n < lim → xs'.length ≤ 63 → ok (dI n) (pre ++ (p, obB q s') :: (q, obX xs') :: st)) : ctTake [.own p, dI lim] (pre ++ (p, obB q s) :: (q, obX xs) :: st) ok ex := by
  rw [ctTake_eq]
  refine ⟨p, q, s, xs, lim, pre.length, pre.length + 1, rfl, l0, l1, by omega, by simp, by simp [List.getElem?_append_right], hx, fun n s' xs' n0 n1 e => ?_⟩
  have := h n s' xs' n0 n1 (by omega)
  rw [List.set_append_right _ _ (Nat.le_refl _), Nat.sub_self, List.set_cons_zero, List.set_append_right _ _ (by omega)]
  rw [show pre.length + 1 - pre.length = 1 from by omega]
  exact this
def famW : List Str := ["news", "quiz", "play"]
theorem fam_word : ∀ z ∈ famW, isWord z = true := by decide +kernel
def famC : List Str := ["one", "two", "tv"]
theorem famC_word : ∀ z ∈ famC, isWord z = true := by decide +kernel
def famN : List Str := ["a", "b", "cc", "dd", "eve", "fox", "gig", "hal", "ivy", "joy"]
theorem famN_word : ∀ z ∈ famN, isWord z = true := by decide +kernel
theorem famN_nd : famN.Nodup := by decide +kernel
structure FamS (x : Snd) : Prop where
  sh : x.show_ ∈ famW
  ch : x.channel ∈ famC
  ep : x.episode ≤ 3
  b : x.begin_ ≤ 149
  e : x.end_ ≤ x.begin_ + 50
  l : x.late ≤ 15
structure FamR (r : Rul) : Prop where
  sh : r.show_ ∈ famW
  f : r.first ≤ 3
  l : r.last ≤ 5
  p : r.priority ≤ 4
  b : r.before ≤ 11
  a : r.after ≤ 11
def FamL (x : Str × Snd) : Prop := x.1 ∈ famN ∧ FamS x.2
@[irreducible] def ctFSend (c : Cl) : Ct := fun ss st ok _ => ∃ (pre : Store) (p q : Addr) (s : Int) (xs : List Int) (st0 : Store), ss = [.own p] ∧ st = pre ++ (p, obB q s) :: (q, obX xs) :: st0 ∧ xs.length ≤ 63 ∧ ∀ x s' xs', SOk x → FamS x → xs'.length ≤ 63 → ok (.dat (x.d c.D)) (pre ++ (p, obB q s') :: (q, obX xs') :: st0)
theorem ctFSend_eq (c : Cl) {ss : List Sv} {st : Store} {ok : OK} {ex : EK} : ctFSend c ss st ok ex = ∃ (pre : Store) (p q : Addr) (s : Int) (xs : List Int) (st0 : Store), ss = [.own p] ∧ st = pre ++ (p, obB q s) :: (q, obX xs) :: st0 ∧ xs.length ≤ 63 ∧ ∀ x s' xs', SOk x → FamS x → xs'.length ≤ 63 → ok (.dat (x.d c.D)) (pre ++ (p, obB q s') :: (q, obX xs') :: st0) := by unfold ctFSend; rfl
@[irreducible] def ctFRule (c : Cl) : Ct := fun ss st ok _ => ∃ (pre : Store) (p q : Addr) (s : Int) (xs : List Int) (st0 : Store), ss = [.own p] ∧ st = pre ++ (p, obB q s) :: (q, obX xs) :: st0 ∧ xs.length ≤ 63 ∧ ∀ x s' xs', ROk x → FamR x → xs'.length ≤ 63 → ok (.dat (x.d c.R)) (pre ++ (p, obB q s') :: (q, obX xs') :: st0)
theorem ctFRule_eq (c : Cl) {ss : List Sv} {st : Store} {ok : OK} {ex : EK} : ctFRule c ss st ok ex = ∃ (pre : Store) (p q : Addr) (s : Int) (xs : List Int) (st0 : Store), ss = [.own p] ∧ st = pre ++ (p, obB q s) :: (q, obX xs) :: st0 ∧ xs.length ≤ 63 ∧ ∀ x s' xs', ROk x → FamR x → xs'.length ≤ 63 → ok (.dat (x.d c.R)) (pre ++ (p, obB q s') :: (q, obX xs') :: st0) := by unfold ctFRule; rfl
@[irreducible] def ctFListing (c : Cl) : Ct := fun ss st ok _ => ∃ (pre : Store) (p q : Addr) (s : Int) (xs : List Int) (st0 : Store) (m : Int), ss = [.own p, dI m] ∧ st = pre ++ (p, obB q s) :: (q, obX xs) :: st0 ∧ xs.length ≤ 63 ∧ 0 ≤ m ∧ m ≤ 10 ∧ ∀ l s' xs', LOk l → (∀ x ∈ l, FamL x) → l.length ≤ m.toNat → xs'.length ≤ 63 → ok (.dat (lstD c l)) (pre ++ (p, obB q s') :: (q, obX xs') :: st0)
theorem ctFListing_eq (c : Cl) {ss : List Sv} {st : Store} {ok : OK} {ex : EK} : ctFListing c ss st ok ex = ∃ (pre : Store) (p q : Addr) (s : Int) (xs : List Int) (st0 : Store) (m : Int), ss = [.own p, dI m] ∧ st = pre ++ (p, obB q s) :: (q, obX xs) :: st0 ∧ xs.length ≤ 63 ∧ 0 ≤ m ∧ m ≤ 10 ∧ ∀ l s' xs', LOk l → (∀ x ∈ l, FamL x) → l.length ≤ m.toNat → xs'.length ≤ 63 → ok (.dat (lstD c l)) (pre ++ (p, obB q s') :: (q, obX xs') :: st0) := by unfold ctFListing; rfl
@[irreducible] def ctFBook (c : Cl) : Ct := fun ss st ok _ => ∃ (pre : Store) (p q : Addr) (s : Int) (xs : List Int) (st0 : Store) (m : Int), ss = [.own p, dI m] ∧ st = pre ++ (p, obB q s) :: (q, obX xs) :: st0 ∧ xs.length ≤ 63 ∧ 0 ≤ m ∧ m ≤ 6 ∧ ∀ b s' xs', BOk b → (∀ x ∈ b.rules, FamR x) → b.rules.length ≤ m.toNat → b.seen.length ≤ 2 → (∀ e ∈ b.seen, e.1 ∈ famW ∧ e.2 ≤ 3) → xs'.length ≤ 63 → ok (.dat (b.d c)) (pre ++ (p, obB q s') :: (q, obX xs') :: st0)
theorem ctFBook_eq (c : Cl) {ss : List Sv} {st : Store} {ok : OK} {ex : EK} : ctFBook c ss st ok ex = ∃ (pre : Store) (p q : Addr) (s : Int) (xs : List Int) (st0 : Store) (m : Int), ss = [.own p, dI m] ∧ st = pre ++ (p, obB q s) :: (q, obX xs) :: st0 ∧ xs.length ≤ 63 ∧ 0 ≤ m ∧ m ≤ 6 ∧ ∀ b s' xs', BOk b → (∀ x ∈ b.rules, FamR x) → b.rules.length ≤ m.toNat → b.seen.length ≤ 2 → (∀ e ∈ b.seen, e.1 ∈ famW ∧ e.2 ≤ 3) → xs'.length ≤ 63 → ok (.dat (b.d c)) (pre ++ (p, obB q s') :: (q, obX xs') :: st0) := by unfold ctFBook; rfl
def sortL (l : Lst) : Lst := (sortN (l.map (·.1))).filterMap fun n => (look l n).map fun s => (n, s)
theorem sortL_keys (l : Lst) : (sortL l).map (·.1) = sortN (l.map (·.1)) := by
  unfold sortL
  have key : ∀ ns : List Str, (∀ n ∈ ns, n ∈ l.map (·.1)) → (ns.filterMap fun n => (look l n).map fun s => (n, s)).map (·.1) = ns := by
    intro ns
    induction ns with
    | nil => intro _; rfl
    | cons n ns ih =>
      intro h
      obtain ⟨s, hs⟩ := look_is (h n List.mem_cons_self)
      rw [List.filterMap_cons]
      rw [hs]
      show n :: _ = _
      rw [ih fun n hn => h n (List.mem_cons_of_mem _ hn)]
  exact key _ fun n hn => (sortN_perm _).mem_iff.mp hn
theorem sortL_mem {l : Lst} {x : Str × Snd} (h : x ∈ sortL l) : x ∈ l := by
  unfold sortL at h
  obtain ⟨n, _, e⟩ := List.mem_filterMap.mp h
  cases e1 : look l n with
  | none => rw [e1] at e; cases e
  | some s => rw [e1] at e; cases e; exact look_in e1
theorem sortL_len (l : Lst) : (sortL l).length = l.length := by
  have := congrArg List.length (sortL_keys l)
  rw [List.length_map, (sortN_perm _).length_eq, List.length_map] at this
  exact this
theorem sortL_ok {l : Lst} (hl : l.length ≤ 10) (nd : (l.map (·.1)).Nodup) (h : ∀ x ∈ l, isWord x.1 = true ∧ SOk x.2) : LOk (sortL l) := by
  refine ⟨by rw [sortL_len]; exact hl, ?_, fun x hx => h x (sortL_mem hx)⟩
  rw [sortL_keys]
  have nd2 : (sortN (l.map (·.1))).Nodup := (sortN_perm _).nodup_iff.mpr nd
  refine List.Pairwise.imp₂ (fun a b h1 h2 => ?_) (sortN_pw _) nd2
  by_cases h3 : a.cps.toList < b.cps.toList
  · exact h3
  · exact absurd (strLe_anti a b h1 (by unfold strLe; exact decide_eq_true (List.not_lt.mp h3))) h2
@[irreducible] def ctListingU (c : Cl) : Ct := fun ss st ok _ => ∃ (q : Addr) (st0 : Store) (l : Lst), ss = [.own q, .dat (dicD (Snd.d c.D) l)] ∧ st = (q, .ins c.L []) :: st0 ∧ l.length ≤ 10 ∧ (l.map (·.1)).Nodup ∧ (∀ x ∈ l, isWord x.1 = true) ∧
  ok (.dat .non) ((q, .ins c.L [("_sendings", .dat (dicD (Snd.d c.D) (sortL l)))]) :: st0)
theorem ctListingU_eq (c : Cl) {ss : List Sv} {st : Store} {ok : OK} {ex : EK} : ctListingU c ss st ok ex = ∃ (q : Addr) (st0 : Store) (l : Lst), ss = [.own q, .dat (dicD (Snd.d c.D) l)] ∧ st = (q, .ins c.L []) :: st0 ∧ l.length ≤ 10 ∧ (l.map (·.1)).Nodup ∧ (∀ x ∈ l, isWord x.1 = true) ∧
  ok (.dat .non) ((q, .ins c.L [("_sendings", .dat (dicD (Snd.d c.D) (sortL l)))]) :: st0) := by unfold ctListingU; rfl
theorem seq_at {i : Int} {n : Nat} (h0 : 0 ≤ i) (h1 : i < n) : seqIndex? i n = some i.toNat := by
  have e : (if i < 0 then i + (n : Int) else i) = i := if_neg (by omega)
  unfold seqIndex?
  dsimp only
  rw [e]
  exact if_pos (by simp; omega)
theorem erase_mapL {α β : Type} (f : α → β) : ∀ (xs : List α) (i : Nat), (xs.map f).eraseIdx i = (xs.eraseIdx i).map f
  | [], _ => rfl
  | _ :: _, 0 => rfl
  | x :: xs, i + 1 => by rw [List.map_cons, List.eraseIdx_cons_succ, List.eraseIdx_cons_succ, List.map_cons, erase_mapL f xs i]
theorem erase_permL {α : Type} {a : α} : ∀ {xs : List α} {i : Nat}, xs[i]? = some a → xs.Perm (a :: xs.eraseIdx i)
  | [], i, h => by simp at h
  | x :: xs, 0, h => by
    obtain rfl : x = a := by simpa using h
    exact List.Perm.refl _
  | x :: xs, i + 1, h => by
    rw [List.eraseIdx_cons_succ]
    exact ((erase_permL (xs := xs) (i := i) (by simpa using h)).cons x).trans (List.Perm.swap a x _)
end SP
namespace SP
open PySem PySem.Spec PyProof.Rows L2 DD
structure Sim (φ : Int → Int) (σ : Wi → Wi) (b : Bk) (l : Lst) (b' : Bk) (l' : Lst) : Prop where
  ok : LOk l
  ok' : LOk l'
  w : wished b' l' = (wished b l).map σ
  n : ∀ w, (σ w).n = w.n
  ep : ∀ w, (σ w).s.ep = w.s.ep
  pr : ∀ w, (σ w).r.priority = w.r.priority
  beg : ∀ w ∈ wished b l, (σ w).s.begin_ = φ w.s.begin_
  win : ∀ w ∈ wished b l, (σ w).win = (φ w.win.1, φ w.win.2)
  mono : ∀ x y, φ x < φ y ↔ x < y
  eps : ∀ n, epAt l' n = epAt l n
  sure : ∀ w ∈ wished b l, ((σ w).s.late ≤ (σ w).r.after ↔ w.s.late ≤ w.r.after)
section
variable {φ : Int → Int} {σ : Wi → Wi} {b b' : Bk} {l l' : Lst}
theorem phi_inj (m : ∀ x y, φ x < φ y ↔ x < y) (x y : Int) : φ x = φ y ↔ x = y := by
  refine ⟨fun h => ?_, fun h => by rw [h]⟩
  have h1 := m x y
  have h2 := m y x
  omega
theorem int_eqv (x y : Int) : PyData.eqv (.int x) (.int y) = decide (x = y) := by
  simp only [PyData.eqv]
  by_cases h : x = y <;> simp [h]
theorem phi_eqv (m : ∀ x y, φ x < φ y ↔ x < y) (x y : Int) : PyData.eqv (.int (φ x)) (.int (φ y)) = PyData.eqv (.int x) (.int y) := by
  rw [int_eqv, int_eqv]
  exact decide_eq_decide.mpr (phi_inj m x y)
theorem phi_lt (m : ∀ x y, φ x < φ y ↔ x < y) (x y : Int) : PySem.W.dataLt (.int (φ x)) (.int (φ y)) = PySem.W.dataLt (.int x) (.int y) := by
  rw [PySem.W.dataLt_int, PySem.W.dataLt_int]
  exact decide_eq_decide.mpr (m x y)
def rowPhi (φ : Int → Int) (r : Row) : Row := (r.1, φ r.2.1, r.2.2)
def bnPhi (φ : Int → Int) (r : Bn) : Bn := (φ r.1, r.2)
theorem row_phi (m : ∀ x y, φ x < φ y ↔ x < y) (a c : Row) : PySem.W.dataLe false rowP a c = PySem.W.dataLe false rowP (rowPhi φ a) (rowPhi φ c) := by
  obtain ⟨a1, a2, a3⟩ := a
  obtain ⟨c1, c2, c3⟩ := c
  rw [PySem.W.dataLe_eq]
  dsimp only [cond]
  have : PySem.W.dataLt (rowP (rowPhi φ (c1, c2, c3))) (rowP (rowPhi φ (a1, a2, a3))) = PySem.W.dataLt (rowP (c1, c2, c3)) (rowP (a1, a2, a3)) := by
    unfold rowP rowPhi
    dsimp only
    have al : PySem.W.alike (epP c3) (epP a3) = true := by simp [epP, PySem.W.alike, PySem.W.alikeAll]
    rw [PySem.W.dataLt_tuple, PySem.W.dataLt_tuple, PySem.W.dataLt_cons (by simp [PySem.W.alike]), PySem.W.dataLt_cons (by simp [PySem.W.alike]), PySem.W.dataLt_cons al, PySem.W.dataLt_cons (x := .int c1) (by simp [PySem.W.alike]), phi_eqv m, phi_lt m, PySem.W.dataLt_cons (x := .int c2) (by simp [PySem.W.alike]), PySem.W.dataLt_cons al]
  rw [this]
theorem bn_phi (m : ∀ x y, φ x < φ y ↔ x < y) (a c : Bn) : PySem.W.dataLe false bnP a c = PySem.W.dataLe false bnP (bnPhi φ a) (bnPhi φ c) := by
  obtain ⟨a1, a2⟩ := a
  obtain ⟨c1, c2⟩ := c
  rw [PySem.W.dataLe_eq]
  dsimp only [cond]
  have : PySem.W.dataLt (bnP (bnPhi φ (c1, c2))) (bnP (bnPhi φ (a1, a2))) = PySem.W.dataLt (bnP (c1, c2)) (bnP (a1, a2)) := by
    unfold bnP bnPhi
    dsimp only
    rw [PySem.W.dataLt_pair (by simp [PySem.W.alike]) (by simp [PySem.W.alike]), PySem.W.dataLt_pair (by simp [PySem.W.alike]) (by simp [PySem.W.alike]), phi_eqv m, phi_lt m]
  rw [this]
theorem Sim.wishes (S : Sim φ σ b l b' l') : SP.wishes b' l' = SP.wishes b l := by
  have e : (SP.wished b' l').map Wi.row = ((SP.wished b l).map Wi.row).map (rowPhi φ) := by
    rw [S.w, List.map_map, List.map_map]
    refine List.map_congr_left fun w hw => ?_
    show (-(σ w).r.priority, (σ w).s.begin_, (σ w).s.ep) = (-w.r.priority, φ w.s.begin_, w.s.ep)
    rw [S.pr, S.beg w hw, S.ep]
  have e2 : sortedRows b' l' = (sortedRows b l).map (rowPhi φ) := by
    unfold sortedRows
    rw [e, List.map_mergeSort fun a _ c _ => row_phi S.mono a c]
  unfold SP.wishes
  rw [e2, List.map_map]
  rfl
theorem Sim.sends (S : Sim φ σ b l b' l') (e : Ep) : sendsOf b' l' e = sendsOf b l e := by
  have e1 : ((SP.wished b' l').filter fun x => decide (x.s.ep = e)).map Wi.bn = (((SP.wished b l).filter fun x => decide (x.s.ep = e)).map Wi.bn).map (bnPhi φ) := by
    rw [S.w, List.filter_map, List.map_map, List.map_map]
    have e2 : ((fun x : Wi => decide (x.s.ep = e)) ∘ σ) = fun x => decide (x.s.ep = e) := by
      funext x
      show decide ((σ x).s.ep = e) = _
      rw [S.ep]
    rw [e2]
    refine List.map_congr_left fun w hw => ?_
    show ((σ w).s.begin_, (σ w).n) = (φ w.s.begin_, w.n)
    rw [S.beg w (List.mem_filter.mp hw).1, S.n]
  unfold sendsOf bnOf
  rw [e1, ← List.map_mergeSort fun a _ c _ => bn_phi S.mono a c, List.map_map]
  rfl
def winPhi (φ : Int → Int) (w : Win) : Win := (φ w.1, φ w.2)
theorem Sim.winOf (S : Sim φ σ b l b' l') {n : Str} (hn : n ∈ SP.wn b l) : SP.winOf (windows b' l') n = winPhi φ (SP.winOf (windows b l) n) := by
  obtain ⟨w, hw, rfl⟩ := List.mem_map.mp hn
  have hw2 : σ w ∈ SP.wished b' l' := by rw [S.w]; exact List.mem_map.mpr ⟨w, hw, rfl⟩
  have e := win_is S.ok' hw2
  rw [S.n, S.win w hw] at e
  rw [e, win_is S.ok hw]
  rfl
theorem over_phi (m : ∀ x y, φ x < φ y ↔ x < y) (a c : Win) : overlap (winPhi φ a) (winPhi φ c) = overlap a c := by
  unfold overlap winPhi
  rw [← Bool.decide_and, ← Bool.decide_and]
  exact decide_eq_decide.mpr (by dsimp only; rw [m, m])
theorem Sim.onRec (S : Sim φ σ b l b' l') {p : Plan} (hp : ∀ x ∈ p, x.1 ∈ SP.wn b l) (r : Int) {n : Str} (hn : n ∈ SP.wn b l) : SP.onRec (windows b' l') p r n = SP.onRec (windows b l) p r n := by
  unfold SP.onRec onRecW
  refine List.filter_congr fun o ho => ?_
  obtain ⟨x, hx, e⟩ := List.mem_map.mp ((sortN_perm _).mem_iff.mp (List.mem_filter.mp ho).1)
  have ho : o ∈ SP.wn b l := by rw [← e]; exact hp x hx
  rw [S.winOf ho, S.winOf hn, over_phi S.mono]
theorem Sim.first (S : Sim φ σ b l b' l') {p : Plan} (hp : ∀ x ∈ p, x.1 ∈ SP.wn b l) (k : Nat) : ∀ {ns : List Str}, (∀ n ∈ ns, n ∈ SP.wn b l) → firstFree (windows b' l') p k ns = firstFree (windows b l) p k ns
  | [], _ => rfl
  | n :: ns, h => by
    have e : freeAt (windows b' l') p k n = freeAt (windows b l) p k n := by
      unfold freeAt
      congr 1
      funext r
      rw [S.onRec hp _ (h n List.mem_cons_self)]
    unfold firstFree
    rw [e, S.first hp k fun x hx => h x (List.mem_cons_of_mem _ hx)]
theorem sends_wn {e : Ep} : ∀ n ∈ sendsOf b l e, n ∈ SP.wn b l := fun n hn => by
  obtain ⟨w, hw, rfl, _⟩ := sends_mem.mp hn
  exact List.mem_map.mpr ⟨w, hw, rfl⟩
theorem Sim.taken (S : Sim φ σ b l b' l') (k : Nat) : SP.taken b' l' k = SP.taken b l k := by
  have key : ∀ (es : List Ep) (p : Plan), (∀ x ∈ p, x.1 ∈ SP.wn b l) → es.foldl (takeStep b' l' k) p = es.foldl (takeStep b l k) p := by
    intro es
    induction es with
    | nil => intro p _; rfl
    | cons e es ih =>
      intro p hp
      have e1 : takeStep b' l' k p e = takeStep b l k p e := by
        unfold takeStep
        rw [S.sends, S.first hp k (sends_wn (b := b) (l := l) (e := e))]
      rw [List.foldl_cons, List.foldl_cons, e1]
      refine ih _ fun x hx => ?_
      unfold takeStep at hx
      cases hf : firstFree (windows b l) p k (sendsOf b l e) with
      | none => rw [hf] at hx; exact hp x hx
      | some z =>
        rw [hf] at hx
        rcases List.mem_append.mp hx with hx | hx
        · exact hp x hx
        · rw [List.mem_singleton.mp hx]
          exact sends_wn _ (first_mem hf).1
  unfold SP.taken
  rw [S.wishes, key _ _ fun x hx => by cases hx]
theorem Sim.own (S : Sim φ σ b l b' l') (k : Nat) : ownPlan b' l' k = ownPlan b l k := by
  unfold ownPlan
  rw [S.taken]
end
end SP
namespace SP
open PySem PySem.Spec PyProof.Rows L2 DD
end SP
namespace SP
open PySem PySem.Spec PyProof.Rows L2 DD
end SP
namespace DD
open PySem PySem.Spec PyProof.Rows L2
end DD
namespace SP
open PySem PySem.Spec PyProof.Rows L2 DD
end SP
namespace SP
open PySem PySem.Spec PyProof.Rows L2 DD
end SP
namespace SP
open PySem PySem.Spec PyProof.Rows L2 DD
end SP
namespace SP
open PySem PySem.Spec PyProof.Rows L2 DD
end SP
namespace SP
open PySem PySem.Spec PyProof.Rows L2 DD
end SP
namespace SP
open PySem PySem.Spec PyProof.Rows L2 DD
/-- tuples that begin with a number -/
theorem leD_int (a b : Int) (xs ys : List PyData) : leD (.tuple (.int a :: xs)) (.tuple (.int b :: ys)) = (decide (a < b) || (decide (a = b) && leD (.tuple xs) (.tuple ys))) := by
  unfold leD
  rw [PySem.W.dataLe_eq]
  dsimp only [cond, id]
  rw [PySem.W.dataLt_tuple, PySem.W.dataLt_tuple, PySem.W.dataLt_cons (by simp [PySem.W.alike])]
  by_cases e : a = b
  · subst e
    rw [if_pos (by simp [PyData.eqv])]
    simp
  · rw [if_neg (by simp [PyData.eqv]; exact fun z => e z.symm), PySem.W.dataLt_int]
    simp only [decide_eq_false e, Bool.false_and, Bool.or_false]
    by_cases h : a < b
    · rw [decide_eq_true h, decide_eq_false (by omega)]
      rfl
    · rw [decide_eq_false h, decide_eq_true (by omega)]
      rfl
theorem openAt_sub {ws : List (Str × Win)} {t u : List Str} (h : t.Sublist u) (m : Int) : (openAt ws t m).length ≤ (openAt ws u m).length := (h.filter _).length_le
theorem mostK_le {ws : List (Str × Win)} {t : List Str} {K : Int} (h0 : 0 ≤ K) : mostAt ws t ≤ K ↔ ∀ n ∈ t, ((openAt ws t (winOf ws n).1).length : Int) ≤ K := by
  unfold mostAt
  rw [max_or _ (fun c hc => by obtain ⟨n, _, rfl⟩ := List.mem_map.mp hc; omega), foldl_max_le]
  constructor
  · intro h n hn
    exact h.2 _ (List.mem_map.mpr ⟨n, hn, rfl⟩)
  · intro h
    refine ⟨h0, fun z hz => ?_⟩
    obtain ⟨n, hn, rfl⟩ := List.mem_map.mp hz
    exact h n hn
theorem most_pre {ws : List (Str × Win)} {t : List Str} {n : Str} {K : Int} (h0 : 0 ≤ K) (h : mostAt ws (t ++ [n]) ≤ K) : mostAt ws t ≤ K := by
  rw [mostK_le h0] at h ⊢
  intro x hx
  have := h x (List.mem_append_left _ hx)
  have h2 := openAt_sub (ws := ws) (List.sublist_append_left t [n]) (winOf ws x).1
  omega
def chStep (l : Lst) (ws : List (Str × Win)) (k : Nat) (F : List (List Str)) (n : Str) : List (List Str) :=
  F ++ ((F.filter fun t => !decide (epAt l n ∈ t.map (epAt l))).map fun t => t ++ [n]).filter fun t => decide (mostAt ws t ≤ (k : Int))
def chFold (l : Lst) (ws : List (Str × Win)) (k : Nat) (ns : List Str) : List (List Str) := ns.foldl (chStep l ws k) [[]]
theorem chFold_snoc (l : Lst) (ws : List (Str × Win)) (k : Nat) (ns : List Str) (n : Str) : chFold l ws k (ns ++ [n]) = chStep l ws k (chFold l ws k ns) n := by
  unfold chFold
  rw [List.foldl_append]
  rfl
theorem ascT_last {t : List Str} {n : Str} (ha : ascN t) (hn : n ∈ t) (h : ∀ x ∈ t, x = n ∨ strLt x n = true) : ∃ t', t = t' ++ [n] := by
  obtain ⟨s, r, rfl⟩ := List.append_of_mem hn
  cases r with
  | nil => exact ⟨s, rfl⟩
  | cons y r =>
    have h1 := (List.pairwise_append.mp ha).2.1
    have h2 : strLt n y = true := (List.pairwise_cons.mp h1).1 y List.mem_cons_self
    rcases h y (by simp) with e | e
    · rw [e, str_ord.ir] at h2
      cases h2
    · have := str_ord.ir n
      rw [str_ord.tr _ _ _ h2 e] at this
      cases this
theorem ch_mem {l : Lst} {ws : List (Str × Win)} {k : Nat} : ∀ (ns : List Str), ascN ns → ∀ t : List Str, t ∈ chFold l ws k ns ↔ ascN t ∧ (∀ n ∈ t, n ∈ ns) ∧ (t.map (epAt l)).Nodup ∧ mostAt ws t ≤ (k : Int) := by
  refine snoc_ind ?_ ?_
  · intro _ t
    show t ∈ [[]] ↔ _
    rw [List.mem_singleton]
    constructor
    · rintro rfl
      exact ⟨List.Pairwise.nil, fun n h => (by cases h), List.nodup_nil, by show (0 : Int) ≤ (k : Int); omega⟩
    · rintro ⟨_, h, _⟩
      cases t with
      | nil => rfl
      | cons a t => exact absurd (h a List.mem_cons_self) (by simp)
  · intro ns n ih ha t
    have hp := List.pairwise_append.mp ha
    have ih := ih hp.1
    have hlt : ∀ x ∈ ns, strLt x n = true := fun x hx => hp.2.2 x hx n (by simp)
    rw [chFold_snoc]
    unfold chStep
    rw [List.mem_append, ih]
    constructor
    · rintro (⟨h1, h2, h3, h4⟩ | h)
      · exact ⟨h1, fun x hx => List.mem_append_left _ (h2 x hx), h3, h4⟩
      · obtain ⟨h, hm⟩ := List.mem_filter.mp h
        obtain ⟨u, hu, rfl⟩ := List.mem_map.mp h
        obtain ⟨hu, he⟩ := List.mem_filter.mp hu
        obtain ⟨h1, h2, h3, h4⟩ := (ih u).mp hu
        have he : epAt l n ∉ u.map (epAt l) := by simpa using he
        refine ⟨?_, fun x hx => ?_, ?_, of_decide_eq_true hm⟩
        · refine List.pairwise_append.mpr ⟨h1, by simp, fun x hx y hy => ?_⟩
          rw [List.mem_singleton.mp hy]
          exact hlt x (h2 x hx)
        · rcases List.mem_append.mp hx with hx | hx
          · exact List.mem_append_left _ (h2 x hx)
          · exact List.mem_append_right _ hx
        · rw [List.map_append]
          refine List.nodup_append.mpr ⟨h3, by simp, fun x hx y hy e => ?_⟩
          have hy : y = epAt l n := List.mem_singleton.mp hy
          subst e
          rw [hy] at hx
          exact he hx
    · rintro ⟨h1, h2, h3, h4⟩
      by_cases hn : n ∈ t
      · obtain ⟨u, rfl⟩ := ascT_last h1 hn (fun x hx => by
          rcases List.mem_append.mp (h2 x hx) with h | h
          · exact .inr (hlt x h)
          · exact .inl (List.mem_singleton.mp h))
        have hq := List.pairwise_append.mp h1
        have hnu : n ∉ u := fun z => by
          have := hq.2.2 n z n (by simp)
          rw [str_ord.ir] at this
          cases this
        rw [List.map_append] at h3
        have h3' := List.nodup_append.mp h3
        refine .inr (List.mem_filter.mpr ⟨List.mem_map.mpr ⟨u, List.mem_filter.mpr ⟨(ih u).mpr ⟨hq.1, fun x hx => ?_, h3'.1, most_pre (by omega) h4⟩, ?_⟩, rfl⟩, decide_eq_true h4⟩)
        · rcases List.mem_append.mp (h2 x (List.mem_append_left _ hx)) with h | h
          · exact h
          · rw [List.mem_singleton.mp h] at hx
            exact absurd hx hnu
        · rw [Bool.not_eq_true']
          exact decide_eq_false fun z => h3'.2.2 (epAt l n) z (epAt l n) (by simp) rfl
      · exact .inl ⟨h1, fun x hx => by
          rcases List.mem_append.mp (h2 x hx) with h | h
          · exact h
          · rw [List.mem_singleton.mp h] at hx
            exact absurd hx hn, h3, h4⟩
theorem ch_choices {b : Bk} {l : Lst} (hl : LOk l) {k : Nat} (t : List Str) : t ∈ chFold l (windows b l) k (wn b l) ↔ t ∈ choicesIn b l k := by
  rw [ch_mem _ (wn_asc hl)]
  constructor
  · rintro ⟨h1, h2, h3, h4⟩
    exact choice_of hl h1 h2 h3 h4
  · intro h
    have hin := choices_in hl h
    unfold choicesIn singles at h
    obtain ⟨h, h4⟩ := List.mem_filter.mp h
    obtain ⟨h, h3⟩ := List.mem_filter.mp h
    obtain ⟨_, h1, h2⟩ := (subs_mem str_ord _ _ t).mp h
    unfold apartN at h3
    exact ⟨h1, h2, of_decide_eq_true h3, of_decide_eq_true h4⟩
theorem ch_len (l : Lst) (ws : List (Str × Win)) (k : Nat) : ∀ (ns : List Str), (chFold l ws k ns).length ≤ 2 ^ ns.length := by
  refine snoc_ind (Nat.le_refl _) fun ns n ih => ?_
  · rw [chFold_snoc]
    unfold chStep
    rw [List.length_append, List.length_append, List.length_singleton, Nat.pow_succ]
    have h1 := List.length_filter_le (fun t => decide (mostAt ws t ≤ (k : Int))) (((chFold l ws k ns).filter fun t => !decide (epAt l n ∈ t.map (epAt l))).map fun t => t ++ [n])
    rw [List.length_map] at h1
    have h2 := List.length_filter_le (fun t => !decide (epAt l n ∈ t.map (epAt l))) (chFold l ws k ns)
    omega
abbrev StR := Int × Int × Int × List Str
def stD (r : StR) : Dt := .tup [.int r.1, .int r.2.1, .int r.2.2.1, nsD r.2.2.2]
def stP (r : StR) : PyData := .tuple [.int r.1, .int r.2.1, .int r.2.2.1, .tuple (r.2.2.2.map .str)]
theorem st_of (r : StR) : PyOf (stD r) (stP r) := .tup (.cons (.int _) (.cons (.int _) (.cons (.int _) (.cons (ns_of _) .nil))))
def keptOf (ns t : List Str) : Nat := (t.filter (isIn ns)).length
def stRow (b : Bk) (l : Lst) (ns t : List Str) : StR := (-(keptOf ns t : Int), -worthOf b l t, -(t.length : Int), t)
def Steady (C : List (List Str)) (b : Bk) (l : Lst) (ns t : List Str) : Prop := t ∈ C ∧ ∀ u ∈ C, leD (stP (stRow b l ns t)) (stP (stRow b l ns u)) = true
theorem strs_inj : ∀ {t u : List Str}, t.map PyData.str = u.map PyData.str → t = u
  | [], [], _ => rfl
  | [], _ :: _, h => by cases h
  | _ :: _, [], h => by cases h
  | a :: t, c :: u, h => by
    rw [List.map_cons, List.map_cons] at h
    obtain ⟨h1, h2⟩ := List.cons.inj h
    cases h1
    rw [strs_inj h2]
theorem strs_toks : ∀ {t u : List Str}, PySem.W.keyToksAll (t.map PyData.str) = PySem.W.keyToksAll (u.map PyData.str) → t = u
  | [], [], _ => rfl
  | [], _ :: _, h => by simp [PySem.W.keyToksAll] at h
  | _ :: _, [], h => by simp [PySem.W.keyToksAll] at h
  | a :: t, c :: u, h => by
    simp [PySem.W.keyToksAll, PySem.W.keyToks] at h
    obtain ⟨h1, h2⟩ := h
    rw [str_ext (x := a) (y := c) (by simpa using h1), strs_toks h2]
theorem leD_anti {a c : PyData} (h : leD a c = true) (h2 : leD c a = true) (hk : PySem.W.keyToks a = PySem.W.keyToks c → a = c) : a = c := by
  unfold leD at h h2
  have := data_anti (α := {x : PyData // x = a ∨ x = c}) (fun x => x.1) (fun x y e => by
    obtain ⟨x, hx⟩ := x
    obtain ⟨y, hy⟩ := y
    apply Subtype.ext
    dsimp only at e ⊢
    rcases hx with rfl | rfl <;> rcases hy with rfl | rfl
    · rfl
    · exact hk e
    · exact (hk e.symm).symm
    · rfl) ⟨a, .inl rfl⟩ ⟨c, .inr rfl⟩ h h2
  exact congrArg Subtype.val this
theorem steady_one {C C' : List (List Str)} (hC : ∀ t, t ∈ C ↔ t ∈ C') {b : Bk} {l : Lst} {ns t u : List Str} (h : Steady C b l ns t) (h' : Steady C' b l ns u) : t = u := by
  have h1 := h.2 u ((hC u).mpr h'.1)
  have h2 := h'.2 t ((hC t).mp h.1)
  unfold stRow stP at h1 h2
  simp only [leD_int, Bool.or_eq_true, Bool.and_eq_true, decide_eq_true_eq] at h1 h2
  have e : leD (.tuple [.tuple (t.map .str)]) (.tuple [.tuple (u.map .str)]) = true ∧ leD (.tuple [.tuple (u.map .str)]) (.tuple [.tuple (t.map .str)]) = true := by
    rcases h1 with h1 | ⟨e1, h1⟩
    · rcases h2 with h2 | ⟨e2, h2⟩ <;> omega
    rcases h2 with h2 | ⟨_, h2⟩
    · omega
    rcases h1 with h1 | ⟨e2, h1⟩
    · rcases h2 with h2 | ⟨e2, h2⟩ <;> omega
    rcases h2 with h2 | ⟨_, h2⟩
    · omega
    rcases h1 with h1 | ⟨e3, h1⟩
    · rcases h2 with h2 | ⟨e2, h2⟩ <;> omega
    rcases h2 with h2 | ⟨_, h2⟩
    · omega
    exact ⟨h1, h2⟩
  have e2 := leD_anti e.1 e.2 (fun z => by
    simp [PySem.W.keyToks, PySem.W.keyToksAll] at z
    rw [strs_toks z])
  injection e2 with e2
  injection e2 with e2
  injection e2 with e2
  exact strs_inj e2
theorem ascN_ext : ∀ {t u : List Str}, ascN t → ascN u → (∀ x, x ∈ t ↔ x ∈ u) → t = u
  | [], [], _, _, _ => rfl
  | [], a :: u, _, _, h => absurd ((h a).mpr List.mem_cons_self) (by simp)
  | a :: t, [], _, _, h => absurd ((h a).mp List.mem_cons_self) (by simp)
  | a :: t, c :: u, ht, hu, h => by
    have ht' := List.pairwise_cons.mp ht
    have hu' := List.pairwise_cons.mp hu
    have e : a = c := by
      rcases List.mem_cons.mp ((h a).mp List.mem_cons_self) with e | e
      · exact e
      · rcases List.mem_cons.mp ((h c).mpr List.mem_cons_self) with e2 | e2
        · exact e2.symm
        · have h1 := hu'.1 a e
          have h2 := ht'.1 c e2
          have := str_ord.ir a
          rw [str_ord.tr _ _ _ h2 h1] at this
          cases this
    subst e
    rw [ascN_ext ht'.2 hu'.2 fun x => ?_]
    constructor
    · intro hx
      rcases List.mem_cons.mp ((h x).mp (List.mem_cons_of_mem _ hx)) with e | e
      · subst e
        have := str_ord.ir x
        rw [ht'.1 x hx] at this
        cases this
      · exact e
    · intro hx
      rcases List.mem_cons.mp ((h x).mpr (List.mem_cons_of_mem _ hx)) with e | e
      · subst e
        have := str_ord.ir x
        rw [hu'.1 x hx] at this
        cases this
      · exact e
theorem kept_none (t : List Str) : keptOf [] t = 0 := by
  unfold keptOf
  rw [List.filter_eq_nil_iff.mpr]
  · rfl
  · intro x _ h
    unfold isIn at h
    simp at h
theorem kept_self (t : List Str) : keptOf t t = t.length := by
  unfold keptOf
  rw [List.filter_eq_self.mpr]
  intro x hx
  unfold isIn
  exact decide_eq_true hx
theorem steady_worth {C : List (List Str)} {b : Bk} {l : Lst} {t : List Str} (h : Steady C b l [] t) : ∀ u ∈ C, worthOf b l u ≤ worthOf b l t := by
  intro u hu
  have h1 := h.2 u hu
  unfold stRow stP at h1
  simp only [leD_int, Bool.or_eq_true, Bool.and_eq_true, decide_eq_true_eq, kept_none] at h1
  rcases h1 with h1 | ⟨_, h1 | ⟨h1, _⟩⟩ <;> omega
theorem filter_all {t u : List Str} (hu : u.Nodup) (ht : t.length ≤ (u.filter (isIn t)).length) : ∀ x ∈ t, x ∈ u := by
  intro x hx
  refine Classical.byContradiction fun hn => ?_
  have h1 : (u.filter (isIn t)).length ≤ (t.erase x).length := by
    refine (hu.sublist List.filter_sublist).length_le_of_subset fun y hy => ?_
    obtain ⟨h2, h3⟩ := List.mem_filter.mp hy
    unfold isIn at h3
    have h3 := of_decide_eq_true h3
    have hne : y ≠ x := fun e => hn (by rw [← e]; exact h2)
    exact (List.mem_erase_of_ne hne).mpr h3
  have := List.length_erase_of_mem hx
  have := List.length_pos_of_mem hx
  omega
theorem sum_split (f : Str → Int) (q : Str → Bool) : ∀ t : List Str, (t.map f).sum = ((t.filter q).map f).sum + ((t.filter fun x => !q x).map f).sum
  | [] => rfl
  | x :: t => by
    rw [List.map_cons, List.sum_cons, sum_split f q t, List.filter_cons, List.filter_cons]
    cases q x <;> simp <;> omega
theorem worth_pos {b : Bk} {l : Lst} (hb : BOk b) (hl : LOk l) : ∀ t : List Str, (∀ n ∈ t, n ∈ wn b l) → (t.length : Int) ≤ worthOf b l t
  | [], _ => Int.le_refl _
  | n :: t, h => by
    have h1 := worth_pos hb hl t fun n hn => h n (List.mem_cons_of_mem _ hn)
    obtain ⟨w, hw, e⟩ := List.mem_map.mp (h n List.mem_cons_self)
    have e : w.n = n := e
    have h2 := prioAt_is hl hw
    rw [e] at h2
    obtain ⟨_, h3⟩ := wished_mem.mp hw
    have hri : w.r ∈ b.rules := by
      unfold ruleFor ruleOf at h3
      split at h3
      · cases h3
      · exact List.mem_of_find?_eq_some h3
    have h4 := (hb.ok _ hri).p1
    unfold worthOf at h1 ⊢
    rw [List.map_cons, List.sum_cons, List.length_cons, h2]
    omega
theorem steady_self {b : Bk} {l : Lst} (hb : BOk b) (hl : LOk l) {k : Nat} {t : List Str} (h : Steady (choicesIn b l k) b l [] t) : Steady (choicesIn b l k) b l t t := by
  refine ⟨h.1, fun u hu => ?_⟩
  have ua := choice_asc hu
  have ta := choice_asc h.1
  have hle : keptOf t u ≤ t.length := by
    unfold keptOf
    refine ((asc_nodup ua).sublist List.filter_sublist).length_le_of_subset fun y hy => ?_
    have h3 := (List.mem_filter.mp hy).2
    unfold isIn at h3
    exact of_decide_eq_true h3
  by_cases c : keptOf t u < t.length
  · unfold stRow stP
    rw [leD_int, decide_eq_true (by rw [kept_self]; omega)]
    rfl
  · have hsub := filter_all (t := t) (u := u) (asc_nodup ua) (by unfold keptOf at c; omega)
    have e1 : u.filter (isIn t) = t := by
      refine ascN_ext (List.Pairwise.sublist List.filter_sublist ua) ta fun x => ?_
      rw [List.mem_filter]
      unfold isIn
      rw [decide_eq_true_eq]
      exact ⟨fun z => z.2, fun z => ⟨hsub x z, z⟩⟩
    have h1 := sum_split (prioAt b l) (isIn t) u
    rw [e1] at h1
    have h2 := steady_worth h u hu
    have h3 := worth_pos hb hl (u.filter fun x => !isIn t x) fun n hn => (choices_in hl hu).2 n (List.mem_filter.mp hn).1
    unfold worthOf at h2 h3
    have h4 : (u.filter fun x => !isIn t x) = [] := List.eq_nil_of_length_eq_zero (by omega)
    have e2 : u = t := by
      rw [← e1]
      refine (List.filter_eq_self.mpr fun x hx => ?_).symm
      cases hq : isIn t x with
      | true => rfl
      | false =>
        have : x ∈ (u.filter fun x => !isIn t x) := List.mem_filter.mpr ⟨hx, by rw [hq]; rfl⟩
        rw [h4] at this
        cases this
    rw [e2]
    exact leD_refl _
def ctChoicesX (c : Cl) (I : Addr) : Ct := fun ss st ok ex => ctChoices c ss st ok ex ∨ ∃ (b : Bk) (l : Lst) (d : Dt), ss = [.dat (b.d c), .dat (lstD c l), .dat d] ∧ OddK d ∧ ex ⟨I, []⟩ st
def ctSteadyX (c : Cl) (I : Addr) : Ct := fun ss st ok ex => (∃ (b : Bk) (l : Lst) (k : Nat) (ns : List Str), ss = [.dat (b.d c), .dat (lstD c l), dI (k : Int), .dat (nsD ns)] ∧ BOk b ∧ LOk l ∧ 1 ≤ k ∧ k ≤ 10 ∧ (∀ n ∈ ns, isWord n = true) ∧ ∀ t, Steady (choicesIn b l k) b l ns t → ok (.dat (.tup [.int (keptOf ns t : Int), .int (worthOf b l t), nsD t])) st) ∨
  ∃ (b : Bk) (l : Lst) (d : Dt) (t : Sv), ss = [.dat (b.d c), .dat (lstD c l), .dat d, t] ∧ OddK d ∧ ex ⟨I, []⟩ st
def ctFChoices (c : Cl) : Ct := fun ss st ok _ => ∃ (b : Bk) (l : Lst) (k : Nat), ss = [.dat (dicD winD (windows b l)), .dat (lstD c l), dI (k : Int)] ∧ LOk l ∧ ok (.dat (.lst ((chFold l (windows b l) k (wn b l)).map nsD))) st
theorem al3 (a b c a' b' c' : Int) (t u : List Str) : PySem.W.alikeAll [.int a, .int b, .int c, .tuple (t.map .str)] [.int a', .int b', .int c', .tuple (u.map .str)] = true := by
  simp [PySem.W.alikeAll, PySem.W.alike, strs_alike]
theorem st_alike (rs : List StR) : PySem.W.AlikeAll (rs.map stP) := by
  refine ⟨fun d hd d' hd' => ?_, fun d hd => ?_⟩
  · obtain ⟨r, _, rfl⟩ := List.mem_map.mp hd
    obtain ⟨r', _, rfl⟩ := List.mem_map.mp hd'
    unfold stP PySem.W.alike
    exact al3 _ _ _ _ _ _ _ _
  · obtain ⟨r, _, rfl⟩ := List.mem_map.mp hd
    exact fun z => by cases z
theorem steady_min {c0 : List Str} {cs : List (List Str)} {b : Bk} {l : Lst} {ns t : List Str} (ht : t ∈ c0 :: cs) (hm : stP (stRow b l ns t) = PySem.W.minD (stP (stRow b l ns c0)) (cs.map fun u => stP (stRow b l ns u))) : Steady (c0 :: cs) b l ns t := by
  refine ⟨ht, fun u hu => ?_⟩
  rw [hm]
  obtain ⟨h1, h2⟩ := minD_least (cs.map fun u => stP (stRow b l ns u)) (stP (stRow b l ns c0))
  rcases List.mem_cons.mp hu with rfl | hu
  · exact h1
  · exact h2 _ (List.mem_map.mpr ⟨u, hu, rfl⟩)
theorem st_depth (rs : List StR) : PyData.depthAll (rs.map stP) ≤ 30 := by
  refine depth_le fun d hd => ?_
  obtain ⟨r, _, rfl⟩ := List.mem_map.mp hd
  have := names_depth r.2.2.2
  simp [stP, PyData.depth, PyData.depthAll, this]
theorem txt_shapedO (n : Str) (hs : PyData.strOk n = true) : SeqAt.shaped (txtP n) = true := by
  have hc : (txtP n).canLay0 = true := by simp [txtP, PyData.canLay0, hs]
  have hd : (txtP n).depth ≤ 64 := by simp [txtP, PyData.depth]
  unfold SeqAt.shaped
  rw [hc, decide_eq_true hd]
  rfl
theorem txts_layO (ns : List Str) (h : ∀ n ∈ ns, PyData.strOk n = true) : PyData.canLayAll0 (ns.map txtP) = true := by
  induction ns with
  | nil => rfl
  | cons e es ih =>
    rw [List.map_cons]
    unfold PyData.canLayAll0
    rw [ih fun e h' => h e (List.mem_cons_of_mem _ h')]
    have hs : PyData.strOk e = true := h e List.mem_cons_self
    simp [txtP, PyData.canLay0, hs]
theorem st3_shaped (a b : Int) (u : List Str) (h : ∀ n ∈ u, isWord n = true) : SeqAt.shaped (.tuple [.int a, .int b, .tuple (u.map .str)]) = true := by
  have h1 : PyData.canLayAll0 (u.map PyData.str) = true := txts_lay u h
  have h2 := names_depth u
  unfold SeqAt.shaped
  simp [PyData.canLay0, PyData.canLayAll0, PyData.depth, PyData.depthAll, h1]
  omega
theorem st3_eqv (a b : Int) (u : List Str) : PyData.eqv (.tuple [.int a, .int b, .tuple (u.map .str)]) (.tuple [.int a, .int b, .tuple (u.map .str)]) = true := by
  have h : PyData.eqvAll (u.map PyData.str) (u.map PyData.str) = true := by
    induction u with
    | nil => rfl
    | cons x u ih => simp [PyData.eqvAll, PyData.eqv, ih]
  simp [PyData.eqv, PyData.eqvAll, h]
theorem bls_of : ∀ bs : List Bool, PyOfs (bs.map Dt.bl) (bs.map PyData.bool)
  | [] => .nil
  | b :: bs => .cons (.bl b) (bls_of bs)
theorem bls_shaped (bs : List Bool) : SeqAt.shaped (.list (bs.map .bool)) = true := by
  have h1 : PyData.canLayAll0 (bs.map PyData.bool) = true := by
    induction bs with
    | nil => rfl
    | cons b bs ih => simp [PyData.canLayAll0, PyData.canLay0, ih]
  have h2 : PyData.depthAll (bs.map PyData.bool) ≤ 1 := depth_le fun d hd => by
    obtain ⟨b, _, rfl⟩ := List.mem_map.mp hd
    simp [PyData.depth]
  unfold SeqAt.shaped
  simp [PyData.canLay0, PyData.depth, h1]
  omega
theorem bls_count (bs : List Bool) : ((bs.map PyData.bool).countP fun z => PyData.eqv z (.bool true)) = bs.count true := by
  induction bs with
  | nil => rfl
  | cons b bs ih =>
    rw [List.map_cons, List.countP_cons, ih, List.count_cons, bl_eqv]
theorem bls_first (bs : List Bool) (j : Nat) (h : ∀ m, m < j → bs[m]? ≠ some true) : ∀ (m : Nat) (z : PyData), m < j → (bs.map PyData.bool)[m]? = some z → PyData.eqv z (.bool true) = false := by
  intro m z hm hz
  rw [List.getElem?_map] at hz
  have := h m hm
  cases hb : bs[m]? with
  | none => rw [hb] at hz; cases hz
  | some b =>
    rw [hb] at hz this
    cases hz
    rw [bl_eqv]
    cases b with
    | true => exact absurd rfl this
    | false => rfl
/-- `_law_named` on a name that is its own answer -/
def ctNamedX : Ct := fun ss st ok _ => ∃ e, ss = [.dat (.str "InvalidNumber"), e] ∧ ok (.dat (.str "InvalidNumber")) st
end SP
namespace SP
open PySem PySem.Spec PyProof.Rows L2 DD
end SP
namespace DD
open PySem PySem.Spec PyProof.Rows L2
end DD
namespace DD
open PySem PySem.Spec PyProof.Rows L2
end DD
namespace K32
open PySem PySem.Spec PyProof.Rows L2 DD SP
local macro_rules | `(tactic| walk_at "w") => `(tactic| (conv => whnf))
local macro_rules | `(tactic| walk_at "s") => `(tactic| (walk_at "w"; first
  | (refine And.intro (fun h => absurd h (by decide)) (fun _ => ?_))
  | (refine And.intro (fun _ => ?_) (fun h => absurd h (by decide)))
  | (refine And.intro (fun h => no_nd h) (fun _ => ?_))
  | (refine And.intro (fun _ => ?_) (fun h => no_d h))))
local macro_rules | `(tactic| walk_at "ss") => `(tactic| ((repeat walk_at "s"); walk_at "w"))
local macro_rules | `(tactic| walk_at "sl") => `(tactic| ((repeat (first | walk_at "s" | refine Or.inl ?_)); walk_at "w"))
local macro_rules | `(tactic| walk_at "sr") => `(tactic| ((repeat (first | walk_at "s" | refine Or.inr ?_)); walk_at "w"))
local macro_rules | `(tactic| walk_at "d") => `(tactic| (walk_at "w"; first
  | (refine And.intro (fun h => absurd h (by decide)) (fun _ => ?_))
  | (refine And.intro (fun _ => ?_) (fun h => absurd h (by decide)))
  | (refine And.intro (fun h => no_nd h) (fun _ => ?_))
  | (refine And.intro (fun _ => ?_) (fun h => no_d h))
  | (refine Exists.intro _ (Exists.intro _ (And.intro (by assumption) ?_)))
  | (refine Exists.intro _ (And.intro rfl ?_))
  | (refine And.intro (by decide) ?_)))
local macro_rules | `(tactic| walk_at "z") => `(tactic| (walk_at "w"; refine And.intro (by first
  | (unfold CPow; decide)
  | (simp only [List.length_cons, List.length_nil, List.length_map, sizeLine_eq]; decide)) ?_))
local macro_rules | `(tactic| walk_at "zz") => `(tactic| ((repeat walk_at "z"); walk_at "w"))
local macro_rules | `(tactic| walk_at "dd") => `(tactic| (repeat walk_at "d"))
local macro_rules | `(tactic| walk_at "yy") => `(tactic| ((repeat (first | walk_at "z" | walk_at "d")); walk_at "w"))
local macro_rules | `(tactic| walk_at "f") => `(tactic| (walk_at "w"; refine ⟨_, _, .keep (List.Sublist.refl _), ?_⟩))
def top (i : Nat) : Stmt := PySem.Challenge.pw_fewtuners_k32_whole_choices_that_keep.main.body.getD i (.Pass ⟨0, 0, 0, 0⟩)
abbrev s_law_error : Stmt := top 80
theorem sc_law_error : FnScope ["_law_work", "_law_error_here", "_law_kinds", "_law_names"] ["_law_work"] (defScope s_law_error) := ⟨rfl, rfl, rfl, by decide +kernel, rfl, by decide +kernel, by decide +kernel⟩
abbrev s_is_word : Stmt := top 28
theorem sc_is_word : FnScope ["value", "letter"] ["value"] (defScope s_is_word) := ⟨rfl, rfl, rfl, by decide +kernel, rfl, by decide +kernel, by decide +kernel⟩
abbrev s_is_number : Stmt := top 29
theorem sc_is_number : FnScope ["value", "least", "greatest"] ["value", "least", "greatest"] (defScope s_is_number) := ⟨rfl, rfl, rfl, by decide +kernel, rfl, by decide +kernel, by decide +kernel⟩
abbrev s_Rule_eq : Stmt := inClass (top 57) 7
abbrev s_Book_eq : Stmt := inClass (top 58) 5
abbrev s_Sending_eq : Stmt := inClass (top 66) 7
abbrev s_Listing_getitem : Stmt := inClass (top 67) 5
theorem sc_Listing_getitem : FnScope ["self", "name"] ["self", "name"] (defScope s_Listing_getitem) := ⟨rfl, rfl, rfl, by decide +kernel, rfl, by decide +kernel, by decide +kernel⟩
abbrev s_Listing_contains : Stmt := inClass (top 67) 6
abbrev s_Listing_len : Stmt := inClass (top 67) 7
abbrev s_Listing_eq : Stmt := inClass (top 67) 8
abbrev s_is_receivers : Stmt := top 30
theorem sc_is_receivers : FnScope ["value"] ["value"] (defScope s_is_receivers) := ⟨rfl, rfl, rfl, by decide +kernel, rfl, by decide +kernel, by decide +kernel⟩
abbrev s_check_receivers : Stmt := top 31
theorem sc_check_receivers : FnScope ["value"] ["value"] (defScope s_check_receivers) := ⟨rfl, rfl, rfl, by decide +kernel, rfl, by decide +kernel, by decide +kernel⟩
abbrev s_Rule_show : Stmt := inClass (top 57) 1
theorem sc_Rule_show : FnScope ["self"] ["self"] (defScope s_Rule_show) := ⟨rfl, rfl, rfl, by decide +kernel, rfl, by decide +kernel, by decide +kernel⟩
abbrev s_Sending_show : Stmt := inClass (top 66) 2
theorem sc_Sending_show : FnScope ["self"] ["self"] (defScope s_Sending_show) := ⟨rfl, rfl, rfl, by decide +kernel, rfl, by decide +kernel, by decide +kernel⟩
abbrev s_Sending_episode : Stmt := inClass (top 66) 3
theorem sc_Sending_episode : FnScope ["self"] ["self"] (defScope s_Sending_episode) := ⟨rfl, rfl, rfl, by decide +kernel, rfl, by decide +kernel, by decide +kernel⟩
abbrev s_episode_of : Stmt := top 33
theorem sc_episode_of : FnScope ["sending"] ["sending"] (defScope s_episode_of) := ⟨rfl, rfl, rfl, by decide +kernel, rfl, by decide +kernel, by decide +kernel⟩
abbrev s_Rule_first : Stmt := inClass (top 57) 2
theorem sc_Rule_first : FnScope ["self"] ["self"] (defScope s_Rule_first) := ⟨rfl, rfl, rfl, by decide +kernel, rfl, by decide +kernel, by decide +kernel⟩
abbrev s_Rule_last : Stmt := inClass (top 57) 3
theorem sc_Rule_last : FnScope ["self"] ["self"] (defScope s_Rule_last) := ⟨rfl, rfl, rfl, by decide +kernel, rfl, by decide +kernel, by decide +kernel⟩
abbrev s_Book_rule_of : Stmt := inClass (top 58) 3
theorem sc_Book_rule_of : FnScope ["self", "show", "episode", "rule"] ["self", "show", "episode"] (defScope s_Book_rule_of) := ⟨rfl, rfl, rfl, by decide +kernel, rfl, by decide +kernel, by decide +kernel⟩
abbrev s_rule_for : Stmt := top 34
theorem sc_rule_for : FnScope ["book", "sending"] ["book", "sending"] (defScope s_rule_for) := ⟨rfl, rfl, rfl, by decide +kernel, rfl, by decide +kernel, by decide +kernel⟩
abbrev s_Listing_names : Stmt := inClass (top 67) 1
theorem sc_Listing_names : FnScope ["self"] ["self"] (defScope s_Listing_names) := ⟨rfl, rfl, rfl, by decide +kernel, rfl, by decide +kernel, by decide +kernel⟩
abbrev s_wished_names : Stmt := top 35
theorem sc_wished_names : FnScope ["book", "listing", "name"] ["book", "listing"] (defScope s_wished_names) := ⟨rfl, rfl, rfl, by decide +kernel, rfl, by decide +kernel, by decide +kernel⟩
abbrev s_Rule_before : Stmt := inClass (top 57) 5
theorem sc_Rule_before : FnScope ["self"] ["self"] (defScope s_Rule_before) := ⟨rfl, rfl, rfl, by decide +kernel, rfl, by decide +kernel, by decide +kernel⟩
abbrev s_Rule_after : Stmt := inClass (top 57) 6
theorem sc_Rule_after : FnScope ["self"] ["self"] (defScope s_Rule_after) := ⟨rfl, rfl, rfl, by decide +kernel, rfl, by decide +kernel, by decide +kernel⟩
abbrev s_Sending_begin : Stmt := inClass (top 66) 4
theorem sc_Sending_begin : FnScope ["self"] ["self"] (defScope s_Sending_begin) := ⟨rfl, rfl, rfl, by decide +kernel, rfl, by decide +kernel, by decide +kernel⟩
abbrev s_Sending_end : Stmt := inClass (top 66) 5
theorem sc_Sending_end : FnScope ["self"] ["self"] (defScope s_Sending_end) := ⟨rfl, rfl, rfl, by decide +kernel, rfl, by decide +kernel, by decide +kernel⟩
abbrev s_window : Stmt := top 36
theorem sc_window : FnScope ["book", "listing", "name", "sending", "rule"] ["book", "listing", "name"] (defScope s_window) := ⟨rfl, rfl, rfl, by decide +kernel, rfl, by decide +kernel, by decide +kernel⟩
abbrev s_wished_windows : Stmt := top 37
theorem sc_wished_windows : FnScope ["book", "listing", "name"] ["book", "listing"] (defScope s_wished_windows) := ⟨rfl, rfl, rfl, by decide +kernel, rfl, by decide +kernel, by decide +kernel⟩
abbrev s_no_episode_twice : Stmt := top 39
theorem sc_no_episode_twice : FnScope ["listing", "names", "name"] ["listing", "names"] (defScope s_no_episode_twice) := ⟨rfl, rfl, rfl, by decide +kernel, rfl, by decide +kernel, by decide +kernel⟩
abbrev s_subsets : Stmt := top 41
theorem sc_subsets : FnScope ["items", "most", "longest", "found", "_", "taken", "item"] ["items", "most"] (defScope s_subsets) := ⟨rfl, rfl, rfl, by decide +kernel, rfl, by decide +kernel, by decide +kernel⟩
abbrev s_open_at : Stmt := top 43
theorem sc_open_at : FnScope ["windows", "names", "minute", "name"] ["windows", "names", "minute"] (defScope s_open_at) := ⟨rfl, rfl, rfl, by decide +kernel, rfl, by decide +kernel, by decide +kernel⟩
abbrev s_most_at_once : Stmt := top 44
theorem sc_most_at_once : FnScope ["windows", "names", "name"] ["windows", "names"] (defScope s_most_at_once) := ⟨rfl, rfl, rfl, by decide +kernel, rfl, by decide +kernel, by decide +kernel⟩
abbrev s_without_doubles : Stmt := top 45
theorem sc_without_doubles : FnScope ["listing", "names", "chosen"] ["listing", "names"] (defScope s_without_doubles) := ⟨rfl, rfl, rfl, by decide +kernel, rfl, by decide +kernel, by decide +kernel⟩
abbrev s_choices_among : Stmt := top 46
theorem sc_choices_among : FnScope ["listing", "windows", "receivers", "tried", "chosen"] ["listing", "windows", "receivers"] (defScope s_choices_among) := ⟨rfl, rfl, rfl, by decide +kernel, rfl, by decide +kernel, by decide +kernel⟩
abbrev s_all_choices : Stmt := top 47
theorem sc_all_choices : FnScope ["book", "listing", "receivers"] ["book", "listing", "receivers"] (defScope s_all_choices) := ⟨rfl, rfl, rfl, by decide +kernel, rfl, by decide +kernel, by decide +kernel⟩
abbrev s_Rule_priority : Stmt := inClass (top 57) 4
theorem sc_Rule_priority : FnScope ["self"] ["self"] (defScope s_Rule_priority) := ⟨rfl, rfl, rfl, by decide +kernel, rfl, by decide +kernel, by decide +kernel⟩
abbrev s_worth : Stmt := top 48
theorem sc_worth : FnScope ["book", "listing", "names", "name"] ["book", "listing", "names"] (defScope s_worth) := ⟨rfl, rfl, rfl, by decide +kernel, rfl, by decide +kernel, by decide +kernel⟩
abbrev s_steady_choice : Stmt := top 50
theorem sc_steady_choice : FnScope ["book", "listing", "receivers", "names", "rows", "chosen", "kept", "name", "best"] ["book", "listing", "receivers", "names"] (defScope s_steady_choice) := ⟨rfl, rfl, rfl, by decide +kernel, rfl, by decide +kernel, by decide +kernel⟩
abbrev s_wrong_part_books : Stmt := top 55
theorem sc_wrong_part_books : FnScope ["show", "first", "last", "priority", "before", "after"] ["show", "first", "last", "priority", "before", "after"] (defScope s_wrong_part_books) := ⟨rfl, rfl, rfl, by decide +kernel, rfl, by decide +kernel, by decide +kernel⟩
abbrev s_Rule_init : Stmt := inClass (top 57) 0
theorem sc_Rule_init : FnScope ["self", "show", "first", "last", "priority", "before", "after", "part"] ["self", "show", "first", "last", "priority", "before", "after"] (defScope s_Rule_init) := ⟨rfl, rfl, rfl, by decide +kernel, rfl, by decide +kernel, by decide +kernel⟩
abbrev s_Book_init : Stmt := inClass (top 58) 0
theorem sc_Book_init : FnScope ["self", "rules", "seen"] ["self", "rules", "seen"] (defScope s_Book_init) := ⟨rfl, rfl, rfl, by decide +kernel, rfl, by decide +kernel, by decide +kernel⟩
abbrev s_Book_rules : Stmt := inClass (top 58) 1
theorem sc_Book_rules : FnScope ["self"] ["self"] (defScope s_Book_rules) := ⟨rfl, rfl, rfl, by decide +kernel, rfl, by decide +kernel, by decide +kernel⟩
abbrev s_Book_seen : Stmt := inClass (top 58) 2
theorem sc_Book_seen : FnScope ["self"] ["self"] (defScope s_Book_seen) := ⟨rfl, rfl, rfl, by decide +kernel, rfl, by decide +kernel, by decide +kernel⟩
abbrev s_wrong_part_listings : Stmt := top 64
theorem sc_wrong_part_listings : FnScope ["channel", "show", "episode", "begin", "end", "late"] ["channel", "show", "episode", "begin", "end", "late"] (defScope s_wrong_part_listings) := ⟨rfl, rfl, rfl, by decide +kernel, rfl, by decide +kernel, by decide +kernel⟩
abbrev s_Sending_init : Stmt := inClass (top 66) 0
theorem sc_Sending_init : FnScope ["self", "channel", "show", "episode", "begin", "end", "late", "part"] ["self", "channel", "show", "episode", "begin", "end", "late"] (defScope s_Sending_init) := ⟨rfl, rfl, rfl, by decide +kernel, rfl, by decide +kernel, by decide +kernel⟩
abbrev s_Sending_channel : Stmt := inClass (top 66) 1
abbrev s_Sending_late : Stmt := inClass (top 66) 6
abbrev s_Listing_init : Stmt := inClass (top 67) 0
theorem sc_Listing_init : FnScope ["self", "sendings", "wrong", "name", "names"] ["self", "sendings"] (defScope s_Listing_init) := ⟨rfl, rfl, rfl, by decide +kernel, rfl, by decide +kernel, by decide +kernel⟩
abbrev s_Listing_sendings : Stmt := inClass (top 67) 2
abbrev s_law_begun : Stmt := top 69
theorem sc_law_begun : FnScope ["_law_script", "_law_stirred", "_law_cell"] ["_law_script"] (defScope s_law_begun) := ⟨rfl, rfl, rfl, by decide +kernel, rfl, by decide +kernel, by decide +kernel⟩
abbrev s_law_take : Stmt := top 70
theorem sc_law_take : FnScope ["_law_box", "_law_many", "_law_figure"] ["_law_box", "_law_many"] (defScope s_law_take) := ⟨rfl, rfl, rfl, by decide +kernel, rfl, by decide +kernel, by decide +kernel⟩
abbrev s_law_alike : Stmt := top 71
theorem sc_law_alike : FnScope ["_law_found", "_law_due", "_law_k"] ["_law_found", "_law_due"] (defScope s_law_alike) := ⟨rfl, rfl, rfl, by decide +kernel, rfl, by decide +kernel, by decide +kernel⟩
abbrev s_law_sending : Stmt := top 72
theorem sc_law_sending : FnScope ["_law_box", "_law_channel", "_law_show", "_law_begin", "_law_length"] ["_law_box"] (defScope s_law_sending) := ⟨rfl, rfl, rfl, by decide +kernel, rfl, by decide +kernel, by decide +kernel⟩
abbrev s_law_listing : Stmt := top 73
theorem sc_law_listing : FnScope ["_law_box", "_law_most_here", "_law_names", "_law_found", "_law_turn"] ["_law_box", "_law_most_here"] (defScope s_law_listing) := ⟨rfl, rfl, rfl, by decide +kernel, rfl, by decide +kernel, by decide +kernel⟩
abbrev s_law_rule : Stmt := top 74
theorem sc_law_rule : FnScope ["_law_box", "_law_show", "_law_first", "_law_padding", "_law_turn"] ["_law_box"] (defScope s_law_rule) := ⟨rfl, rfl, rfl, by decide +kernel, rfl, by decide +kernel, by decide +kernel⟩
abbrev s_law_wishes_of : Stmt := top 75
theorem sc_law_wishes_of : FnScope ["_law_box", "_law_most_here", "_law_rules", "_law_turn", "_law_seen"] ["_law_box", "_law_most_here"] (defScope s_law_wishes_of) := ⟨rfl, rfl, rfl, by decide +kernel, rfl, by decide +kernel, by decide +kernel⟩
abbrev s_law_rule_of : Stmt := top 76
theorem sc_law_rule_of : FnScope ["_law_book", "_law_sending_here", "_law_rule_here"] ["_law_book", "_law_sending_here"] (defScope s_law_rule_of) := ⟨rfl, rfl, rfl, by decide +kernel, rfl, by decide +kernel, by decide +kernel⟩
abbrev s_law_windows : Stmt := top 77
theorem sc_law_windows : FnScope ["_law_book", "_law_listing_here", "_law_found", "_law_name", "_law_rule_here", "_law_sending_here"] ["_law_book", "_law_listing_here"] (defScope s_law_windows) := ⟨rfl, rfl, rfl, by decide +kernel, rfl, by decide +kernel, by decide +kernel⟩
abbrev s_law_most : Stmt := top 79
theorem sc_law_most : FnScope ["_law_windows_here", "_law_some", "_law_counts", "_law_one", "_law_name"] ["_law_windows_here", "_law_some"] (defScope s_law_most) := ⟨rfl, rfl, rfl, by decide +kernel, rfl, by decide +kernel, by decide +kernel⟩
abbrev s_law_choices : Stmt := top 78
theorem sc_law_choices : FnScope ["_law_windows_here", "_law_listing_here", "_law_receivers", "_law_found", "_law_name", "_law_more", "_law_some", "_law_episodes", "_law_one"] ["_law_windows_here", "_law_listing_here", "_law_receivers"] (defScope s_law_choices) := ⟨rfl, rfl, rfl, by decide +kernel, rfl, by decide +kernel, by decide +kernel⟩
abbrev s_law_named : Stmt := top 81
theorem sc_law_named : FnScope ["_law_name", "_law_error_here"] ["_law_name", "_law_error_here"] (defScope s_law_named) := ⟨rfl, rfl, rfl, by decide +kernel, rfl, by decide +kernel, by decide +kernel⟩
abbrev s_law : Stmt := top 82
theorem sc_law : FnScope ["_law_script", "_law_box", "_law_turn", "_law_listing_here", "_law_book", "_law_receivers", "_law_names", "_law_name", "_law_windows_here", "_law_rows", "_law_some", "_law_kept", "_law_total", "_law_best", "_law_plain", "_law_row", "_law_wrong"] ["_law_script"] (defScope s_law) := ⟨rfl, rfl, rfl, by decide +kernel, rfl, by decide +kernel, by decide +kernel⟩
abbrev s_InvalidSending_init : Stmt := inClass (top 3) 0
theorem sc_InvalidSending_init : FnScope ["self", "part"] ["self", "part"] (defScope s_InvalidSending_init) := ⟨rfl, rfl, rfl, by decide +kernel, rfl, by decide +kernel, by decide +kernel⟩
abbrev s_InvalidListing_init : Stmt := inClass (top 4) 0
theorem sc_InvalidListing_init : FnScope ["self", "name"] ["self", "name"] (defScope s_InvalidListing_init) := ⟨rfl, rfl, rfl, by decide +kernel, rfl, by decide +kernel, by decide +kernel⟩
abbrev s_InvalidRule_init : Stmt := inClass (top 6) 0
theorem sc_InvalidRule_init : FnScope ["self", "part"] ["self", "part"] (defScope s_InvalidRule_init) := ⟨rfl, rfl, rfl, by decide +kernel, rfl, by decide +kernel, by decide +kernel⟩
def lam_law_0 : LamK := LP.lam (LP.arg (LP.cl (LP.tst (LP.nth (LP.body (LP.nth (LP.body (LP.nth (defBody s_law) 1)) 9)) 0))) 0)
structure En (K : PySem.W.Frag) (mg : Str → Option Value) where
  n_ValueError : mg "ValueError" = none
  n_len : mg "len" = none
  n_int : mg "int" = none
  n_bool : mg "bool" = none
  n_str : mg "str" = none
  n_list : mg "list" = none
  n_tuple : mg "tuple" = none
  n_dict : mg "dict" = none
  n_range : mg "range" = none
  n_isinstance : mg "isinstance" = none
  n_max : mg "max" = none
  n_min : mg "min" = none
  n_all : mg "all" = none
  n_sorted : mg "sorted" = none
  n_sum : mg "sum" = none
  u_GREATEST_EPISODE : Value
  c_GREATEST_EPISODE : mg "GREATEST_EPISODE" = some u_GREATEST_EPISODE
  r_GREATEST_EPISODE : RelV (.int 999) u_GREATEST_EPISODE
  u_MOST_RECEIVERS : Value
  c_MOST_RECEIVERS : mg "MOST_RECEIVERS" = some u_MOST_RECEIVERS
  r_MOST_RECEIVERS : RelV (.int 10) u_MOST_RECEIVERS
  u_MOST_RULES : Value
  c_MOST_RULES : mg "MOST_RULES" = some u_MOST_RULES
  r_MOST_RULES : RelV (.int 6) u_MOST_RULES
  u_GREATEST_PRIORITY : Value
  c_GREATEST_PRIORITY : mg "GREATEST_PRIORITY" = some u_GREATEST_PRIORITY
  r_GREATEST_PRIORITY : RelV (.int 9) u_GREATEST_PRIORITY
  u_MOST_PADDING : Value
  c_MOST_PADDING : mg "MOST_PADDING" = some u_MOST_PADDING
  r_MOST_PADDING : RelV (.int 60) u_MOST_PADDING
  u_MOST_SENDINGS : Value
  c_MOST_SENDINGS : mg "MOST_SENDINGS" = some u_MOST_SENDINGS
  r_MOST_SENDINGS : RelV (.int 10) u_MOST_SENDINGS
  u_LATEST_BEGIN : Value
  c_LATEST_BEGIN : mg "LATEST_BEGIN" = some u_LATEST_BEGIN
  r_LATEST_BEGIN : RelV (.int 1000000) u_LATEST_BEGIN
  u_LATEST_END : Value
  c_LATEST_END : mg "LATEST_END" = some u_LATEST_END
  r_LATEST_END : RelV (.int 1000600) u_LATEST_END
  u_MOST_LATE : Value
  c_MOST_LATE : mg "MOST_LATE" = some u_MOST_LATE
  r_MOST_LATE : RelV (.int 60) u_MOST_LATE
  f_is_word : Addr
  g_is_word : mg "is_word" = some (.ref f_is_word)
  d_is_word : FuncData
  F_is_word : Fun K "is_word" "is_word" s_is_word f_is_word d_is_word
  f_is_number : Addr
  g_is_number : mg "is_number" = some (.ref f_is_number)
  d_is_number : FuncData
  F_is_number : Fun K "is_number" "is_number" s_is_number f_is_number d_is_number
  f_is_receivers : Addr
  g_is_receivers : mg "is_receivers" = some (.ref f_is_receivers)
  d_is_receivers : FuncData
  F_is_receivers : Fun K "is_receivers" "is_receivers" s_is_receivers f_is_receivers d_is_receivers
  f_check_receivers : Addr
  g_check_receivers : mg "check_receivers" = some (.ref f_check_receivers)
  d_check_receivers : FuncData
  F_check_receivers : Fun K "check_receivers" "check_receivers" s_check_receivers f_check_receivers d_check_receivers
  f_episode_of : Addr
  g_episode_of : mg "episode_of" = some (.ref f_episode_of)
  d_episode_of : FuncData
  F_episode_of : Fun K "episode_of" "episode_of" s_episode_of f_episode_of d_episode_of
  f_rule_for : Addr
  g_rule_for : mg "rule_for" = some (.ref f_rule_for)
  d_rule_for : FuncData
  F_rule_for : Fun K "rule_for" "rule_for" s_rule_for f_rule_for d_rule_for
  f_wished_names : Addr
  g_wished_names : mg "wished_names" = some (.ref f_wished_names)
  d_wished_names : FuncData
  F_wished_names : Fun K "wished_names" "wished_names" s_wished_names f_wished_names d_wished_names
  f_window : Addr
  g_window : mg "window" = some (.ref f_window)
  d_window : FuncData
  F_window : Fun K "window" "window" s_window f_window d_window
  f_wished_windows : Addr
  g_wished_windows : mg "wished_windows" = some (.ref f_wished_windows)
  d_wished_windows : FuncData
  F_wished_windows : Fun K "wished_windows" "wished_windows" s_wished_windows f_wished_windows d_wished_windows
  f_no_episode_twice : Addr
  g_no_episode_twice : mg "no_episode_twice" = some (.ref f_no_episode_twice)
  d_no_episode_twice : FuncData
  F_no_episode_twice : Fun K "no_episode_twice" "no_episode_twice" s_no_episode_twice f_no_episode_twice d_no_episode_twice
  f_subsets : Addr
  g_subsets : mg "subsets" = some (.ref f_subsets)
  d_subsets : FuncData
  F_subsets : Fun K "subsets" "subsets" s_subsets f_subsets d_subsets
  f_open_at : Addr
  g_open_at : mg "open_at" = some (.ref f_open_at)
  d_open_at : FuncData
  F_open_at : Fun K "open_at" "open_at" s_open_at f_open_at d_open_at
  f_most_at_once : Addr
  g_most_at_once : mg "most_at_once" = some (.ref f_most_at_once)
  d_most_at_once : FuncData
  F_most_at_once : Fun K "most_at_once" "most_at_once" s_most_at_once f_most_at_once d_most_at_once
  f_without_doubles : Addr
  g_without_doubles : mg "without_doubles" = some (.ref f_without_doubles)
  d_without_doubles : FuncData
  F_without_doubles : Fun K "without_doubles" "without_doubles" s_without_doubles f_without_doubles d_without_doubles
  f_choices_among : Addr
  g_choices_among : mg "choices_among" = some (.ref f_choices_among)
  d_choices_among : FuncData
  F_choices_among : Fun K "choices_among" "choices_among" s_choices_among f_choices_among d_choices_among
  f_all_choices : Addr
  g_all_choices : mg "all_choices" = some (.ref f_all_choices)
  d_all_choices : FuncData
  F_all_choices : Fun K "all_choices" "all_choices" s_all_choices f_all_choices d_all_choices
  f_worth : Addr
  g_worth : mg "worth" = some (.ref f_worth)
  d_worth : FuncData
  F_worth : Fun K "worth" "worth" s_worth f_worth d_worth
  f_steady_choice : Addr
  g_steady_choice : mg "steady_choice" = some (.ref f_steady_choice)
  d_steady_choice : FuncData
  F_steady_choice : Fun K "steady_choice" "steady_choice" s_steady_choice f_steady_choice d_steady_choice
  f_wrong_part_books : Addr
  g_wrong_part_books : mg "wrong_part_books" = some (.ref f_wrong_part_books)
  d_wrong_part_books : FuncData
  F_wrong_part_books : Fun K "wrong_part" "wrong_part" s_wrong_part_books f_wrong_part_books d_wrong_part_books
  f_wrong_part_listings : Addr
  g_wrong_part_listings : mg "wrong_part_listings" = some (.ref f_wrong_part_listings)
  d_wrong_part_listings : FuncData
  F_wrong_part_listings : Fun K "wrong_part" "wrong_part" s_wrong_part_listings f_wrong_part_listings d_wrong_part_listings
  f_law_begun : Addr
  g_law_begun : mg "_law_begun" = some (.ref f_law_begun)
  d_law_begun : FuncData
  F_law_begun : Fun K "_law_begun" "_law_begun" s_law_begun f_law_begun d_law_begun
  f_law_take : Addr
  g_law_take : mg "_law_take" = some (.ref f_law_take)
  d_law_take : FuncData
  F_law_take : Fun K "_law_take" "_law_take" s_law_take f_law_take d_law_take
  f_law_alike : Addr
  g_law_alike : mg "_law_alike" = some (.ref f_law_alike)
  d_law_alike : FuncData
  F_law_alike : Fun K "_law_alike" "_law_alike" s_law_alike f_law_alike d_law_alike
  f_law_sending : Addr
  g_law_sending : mg "_law_sending" = some (.ref f_law_sending)
  d_law_sending : FuncData
  F_law_sending : Fun K "_law_sending" "_law_sending" s_law_sending f_law_sending d_law_sending
  f_law_listing : Addr
  g_law_listing : mg "_law_listing" = some (.ref f_law_listing)
  d_law_listing : FuncData
  F_law_listing : Fun K "_law_listing" "_law_listing" s_law_listing f_law_listing d_law_listing
  f_law_rule : Addr
  g_law_rule : mg "_law_rule" = some (.ref f_law_rule)
  d_law_rule : FuncData
  F_law_rule : Fun K "_law_rule" "_law_rule" s_law_rule f_law_rule d_law_rule
  f_law_wishes_of : Addr
  g_law_wishes_of : mg "_law_wishes_of" = some (.ref f_law_wishes_of)
  d_law_wishes_of : FuncData
  F_law_wishes_of : Fun K "_law_wishes_of" "_law_wishes_of" s_law_wishes_of f_law_wishes_of d_law_wishes_of
  f_law_rule_of : Addr
  g_law_rule_of : mg "_law_rule_of" = some (.ref f_law_rule_of)
  d_law_rule_of : FuncData
  F_law_rule_of : Fun K "_law_rule_of" "_law_rule_of" s_law_rule_of f_law_rule_of d_law_rule_of
  f_law_windows : Addr
  g_law_windows : mg "_law_windows" = some (.ref f_law_windows)
  d_law_windows : FuncData
  F_law_windows : Fun K "_law_windows" "_law_windows" s_law_windows f_law_windows d_law_windows
  f_law_choices : Addr
  g_law_choices : mg "_law_choices" = some (.ref f_law_choices)
  d_law_choices : FuncData
  F_law_choices : Fun K "_law_choices" "_law_choices" s_law_choices f_law_choices d_law_choices
  f_law_most : Addr
  g_law_most : mg "_law_most" = some (.ref f_law_most)
  d_law_most : FuncData
  F_law_most : Fun K "_law_most" "_law_most" s_law_most f_law_most d_law_most
  f_law_error : Addr
  g_law_error : mg "_law_error" = some (.ref f_law_error)
  d_law_error : FuncData
  F_law_error : Fun K "_law_error" "_law_error" s_law_error f_law_error d_law_error
  f_law_named : Addr
  g_law_named : mg "_law_named" = some (.ref f_law_named)
  d_law_named : FuncData
  F_law_named : Fun K "_law_named" "_law_named" s_law_named f_law_named d_law_named
  f_law : Addr
  g_law : mg "law" = some (.ref f_law)
  d_law : FuncData
  F_law : Fun K "law" "law" s_law f_law d_law
  C_Rule : Addr
  g_Rule : mg "Rule" = some (.ref C_Rule)
  cl_Rule : Cls K C_Rule
  in_Rule : InsC K C_Rule
  f_Rule_init : Addr
  mk_Rule : Mk K C_Rule f_Rule_init
  d_Rule_init : FuncData
  F_Rule_init : FunD K "__init__" "Rule.__init__" (defArgs s_Rule_init) (defBody s_Rule_init) (defScope s_Rule_init) [.int 0, .int 0] [] f_Rule_init d_Rule_init
  f_Rule_show : Addr
  q_Rule_show : Addr
  p_Rule_show : PropOf K C_Rule "show" q_Rule_show f_Rule_show
  d_Rule_show : FuncData
  F_Rule_show : Fun K "show" "Rule.show" s_Rule_show f_Rule_show d_Rule_show
  f_Rule_first : Addr
  q_Rule_first : Addr
  p_Rule_first : PropOf K C_Rule "first" q_Rule_first f_Rule_first
  d_Rule_first : FuncData
  F_Rule_first : Fun K "first" "Rule.first" s_Rule_first f_Rule_first d_Rule_first
  f_Rule_last : Addr
  q_Rule_last : Addr
  p_Rule_last : PropOf K C_Rule "last" q_Rule_last f_Rule_last
  d_Rule_last : FuncData
  F_Rule_last : Fun K "last" "Rule.last" s_Rule_last f_Rule_last d_Rule_last
  f_Rule_priority : Addr
  q_Rule_priority : Addr
  p_Rule_priority : PropOf K C_Rule "priority" q_Rule_priority f_Rule_priority
  d_Rule_priority : FuncData
  F_Rule_priority : Fun K "priority" "Rule.priority" s_Rule_priority f_Rule_priority d_Rule_priority
  f_Rule_before : Addr
  q_Rule_before : Addr
  p_Rule_before : PropOf K C_Rule "before" q_Rule_before f_Rule_before
  d_Rule_before : FuncData
  F_Rule_before : Fun K "before" "Rule.before" s_Rule_before f_Rule_before d_Rule_before
  f_Rule_after : Addr
  q_Rule_after : Addr
  p_Rule_after : PropOf K C_Rule "after" q_Rule_after f_Rule_after
  d_Rule_after : FuncData
  F_Rule_after : Fun K "after" "Rule.after" s_Rule_after f_Rule_after d_Rule_after
  f_Rule_eq : Addr
  e_Rule_eq : PySem.W.findIn K (.ref C_Rule) "__eq__" = some (some (.ref f_Rule_eq))
  fn_Rule_eq : PySem.W.isFn K (.ref f_Rule_eq) = true
  ne_Rule : NeC K C_Rule f_Rule_eq
  d_Rule_eq : FuncData
  F_Rule_eq : Fun K "__eq__" "Rule.__eq__" s_Rule_eq f_Rule_eq d_Rule_eq
  na_Rule_show : NoAttr K C_Rule "_show"
  na_Rule_first : NoAttr K C_Rule "_first"
  na_Rule_last : NoAttr K C_Rule "_last"
  na_Rule_priority : NoAttr K C_Rule "_priority"
  na_Rule_before : NoAttr K C_Rule "_before"
  na_Rule_after : NoAttr K C_Rule "_after"
  C_Book : Addr
  g_Book : mg "Book" = some (.ref C_Book)
  cl_Book : Cls K C_Book
  in_Book : InsC K C_Book
  f_Book_init : Addr
  mk_Book : Mk K C_Book f_Book_init
  d_Book_init : FuncData
  a_Book_init : Addr
  F_Book_init : FunD K "__init__" "Book.__init__" (defArgs s_Book_init) (defBody s_Book_init) (defScope s_Book_init) [.ref a_Book_init] [] f_Book_init d_Book_init
  kt_Book_init : ∃ (o : Obj) (n : Nat), K.lookup a_Book_init = some o ∧ o.cls = .type "tuple" ∧ o.data = .seq #[] n
  f_Book_rules : Addr
  q_Book_rules : Addr
  p_Book_rules : PropOf K C_Book "rules" q_Book_rules f_Book_rules
  d_Book_rules : FuncData
  F_Book_rules : Fun K "rules" "Book.rules" s_Book_rules f_Book_rules d_Book_rules
  f_Book_seen : Addr
  q_Book_seen : Addr
  p_Book_seen : PropOf K C_Book "seen" q_Book_seen f_Book_seen
  d_Book_seen : FuncData
  F_Book_seen : Fun K "seen" "Book.seen" s_Book_seen f_Book_seen d_Book_seen
  f_Book_rule_of : Addr
  m_Book_rule_of : Meth K C_Book "rule_of" f_Book_rule_of
  d_Book_rule_of : FuncData
  F_Book_rule_of : Fun K "rule_of" "Book.rule_of" s_Book_rule_of f_Book_rule_of d_Book_rule_of
  f_Book_eq : Addr
  e_Book_eq : PySem.W.findIn K (.ref C_Book) "__eq__" = some (some (.ref f_Book_eq))
  fn_Book_eq : PySem.W.isFn K (.ref f_Book_eq) = true
  ne_Book : NeC K C_Book f_Book_eq
  d_Book_eq : FuncData
  F_Book_eq : Fun K "__eq__" "Book.__eq__" s_Book_eq f_Book_eq d_Book_eq
  na_Book_rules : NoAttr K C_Book "_rules"
  na_Book_seen : NoAttr K C_Book "_seen"
  C_Sending : Addr
  g_Sending : mg "Sending" = some (.ref C_Sending)
  cl_Sending : Cls K C_Sending
  in_Sending : InsC K C_Sending
  f_Sending_init : Addr
  mk_Sending : Mk K C_Sending f_Sending_init
  d_Sending_init : FuncData
  F_Sending_init : FunD K "__init__" "Sending.__init__" (defArgs s_Sending_init) (defBody s_Sending_init) (defScope s_Sending_init) [.int 0] [] f_Sending_init d_Sending_init
  f_Sending_channel : Addr
  q_Sending_channel : Addr
  p_Sending_channel : PropOf K C_Sending "channel" q_Sending_channel f_Sending_channel
  d_Sending_channel : FuncData
  F_Sending_channel : Fun K "channel" "Sending.channel" s_Sending_channel f_Sending_channel d_Sending_channel
  f_Sending_show : Addr
  q_Sending_show : Addr
  p_Sending_show : PropOf K C_Sending "show" q_Sending_show f_Sending_show
  d_Sending_show : FuncData
  F_Sending_show : Fun K "show" "Sending.show" s_Sending_show f_Sending_show d_Sending_show
  f_Sending_episode : Addr
  q_Sending_episode : Addr
  p_Sending_episode : PropOf K C_Sending "episode" q_Sending_episode f_Sending_episode
  d_Sending_episode : FuncData
  F_Sending_episode : Fun K "episode" "Sending.episode" s_Sending_episode f_Sending_episode d_Sending_episode
  f_Sending_begin : Addr
  q_Sending_begin : Addr
  p_Sending_begin : PropOf K C_Sending "begin" q_Sending_begin f_Sending_begin
  d_Sending_begin : FuncData
  F_Sending_begin : Fun K "begin" "Sending.begin" s_Sending_begin f_Sending_begin d_Sending_begin
  f_Sending_end : Addr
  q_Sending_end : Addr
  p_Sending_end : PropOf K C_Sending "end" q_Sending_end f_Sending_end
  d_Sending_end : FuncData
  F_Sending_end : Fun K "end" "Sending.end" s_Sending_end f_Sending_end d_Sending_end
  f_Sending_late : Addr
  q_Sending_late : Addr
  p_Sending_late : PropOf K C_Sending "late" q_Sending_late f_Sending_late
  d_Sending_late : FuncData
  F_Sending_late : Fun K "late" "Sending.late" s_Sending_late f_Sending_late d_Sending_late
  f_Sending_eq : Addr
  e_Sending_eq : PySem.W.findIn K (.ref C_Sending) "__eq__" = some (some (.ref f_Sending_eq))
  fn_Sending_eq : PySem.W.isFn K (.ref f_Sending_eq) = true
  ne_Sending : NeC K C_Sending f_Sending_eq
  d_Sending_eq : FuncData
  F_Sending_eq : Fun K "__eq__" "Sending.__eq__" s_Sending_eq f_Sending_eq d_Sending_eq
  na_Sending_channel : NoAttr K C_Sending "_channel"
  na_Sending_show : NoAttr K C_Sending "_show"
  na_Sending_episode : NoAttr K C_Sending "_episode"
  na_Sending_begin : NoAttr K C_Sending "_begin"
  na_Sending_end : NoAttr K C_Sending "_end"
  na_Sending_late : NoAttr K C_Sending "_late"
  C_Listing : Addr
  g_Listing : mg "Listing" = some (.ref C_Listing)
  cl_Listing : Cls K C_Listing
  in_Listing : InsC K C_Listing
  f_Listing_init : Addr
  mk_Listing : Mk K C_Listing f_Listing_init
  d_Listing_init : FuncData
  F_Listing_init : Fun K "__init__" "Listing.__init__" s_Listing_init f_Listing_init d_Listing_init
  f_Listing_names : Addr
  q_Listing_names : Addr
  p_Listing_names : PropOf K C_Listing "names" q_Listing_names f_Listing_names
  d_Listing_names : FuncData
  F_Listing_names : Fun K "names" "Listing.names" s_Listing_names f_Listing_names d_Listing_names
  f_Listing_sendings : Addr
  q_Listing_sendings : Addr
  p_Listing_sendings : PropOf K C_Listing "sendings" q_Listing_sendings f_Listing_sendings
  d_Listing_sendings : FuncData
  F_Listing_sendings : Fun K "sendings" "Listing.sendings" s_Listing_sendings f_Listing_sendings d_Listing_sendings
  f_Listing_getitem : Addr
  sg_Listing_getitem : PySem.W.findIn K (.ref C_Listing) "__getitem__" = some (some (.ref f_Listing_getitem))
  fi_Listing_getitem : PySem.W.fnIn K f_Listing_getitem = true
  fn_Listing_getitem : PySem.W.isFn K (.ref f_Listing_getitem) = true
  d_Listing_getitem : FuncData
  F_Listing_getitem : Fun K "__getitem__" "Listing.__getitem__" s_Listing_getitem f_Listing_getitem d_Listing_getitem
  f_Listing_contains : Addr
  sg_Listing_contains : PySem.W.findIn K (.ref C_Listing) "__contains__" = some (some (.ref f_Listing_contains))
  fi_Listing_contains : PySem.W.fnIn K f_Listing_contains = true
  fn_Listing_contains : PySem.W.isFn K (.ref f_Listing_contains) = true
  d_Listing_contains : FuncData
  F_Listing_contains : Fun K "__contains__" "Listing.__contains__" s_Listing_contains f_Listing_contains d_Listing_contains
  f_Listing_len : Addr
  sg_Listing_len : PySem.W.findIn K (.ref C_Listing) "__len__" = some (some (.ref f_Listing_len))
  fi_Listing_len : PySem.W.fnIn K f_Listing_len = true
  fn_Listing_len : PySem.W.isFn K (.ref f_Listing_len) = true
  d_Listing_len : FuncData
  F_Listing_len : Fun K "__len__" "Listing.__len__" s_Listing_len f_Listing_len d_Listing_len
  f_Listing_eq : Addr
  e_Listing_eq : PySem.W.findIn K (.ref C_Listing) "__eq__" = some (some (.ref f_Listing_eq))
  fn_Listing_eq : PySem.W.isFn K (.ref f_Listing_eq) = true
  ne_Listing : NeC K C_Listing f_Listing_eq
  d_Listing_eq : FuncData
  F_Listing_eq : Fun K "__eq__" "Listing.__eq__" s_Listing_eq f_Listing_eq d_Listing_eq
  na_Listing_sendings : NoAttr K C_Listing "_sendings"
  tc_law : Addr
  dc_law : d_law.code = .ref tc_law
  h_law : PySem.W.codeHdIn K tc_law (He.tabOf K tc_law) = true
  n_tp : K.lookup (He.tabOf K tc_law) = none
  ki_Rule_Rule : PySem.W.kitOne K (.ref C_Rule) (.ref C_Rule) = some true
  ki_Book_Rule : PySem.W.kitOne K (.ref C_Book) (.ref C_Rule) = some false
  ki_Sending_Rule : PySem.W.kitOne K (.ref C_Sending) (.ref C_Rule) = some false
  ki_Listing_Rule : PySem.W.kitOne K (.ref C_Listing) (.ref C_Rule) = some false
  kb_NoneType_Rule : PySem.W.kitOne K (.type "NoneType") (.ref C_Rule) = some false
  kb_bool_Rule : PySem.W.kitOne K (.type "bool") (.ref C_Rule) = some false
  kb_int_Rule : PySem.W.kitOne K (.type "int") (.ref C_Rule) = some false
  kb_str_Rule : PySem.W.kitOne K (.type "str") (.ref C_Rule) = some false
  kb_list_Rule : PySem.W.kitOne K (.type "list") (.ref C_Rule) = some false
  kb_tuple_Rule : PySem.W.kitOne K (.type "tuple") (.ref C_Rule) = some false
  kb_dict_Rule : PySem.W.kitOne K (.type "dict") (.ref C_Rule) = some false
  ko_Rule_bool : PySem.W.kitOne K (.ref C_Rule) (.type "bool") = some false
  ko_Rule_int : PySem.W.kitOne K (.ref C_Rule) (.type "int") = some false
  ko_Rule_str : PySem.W.kitOne K (.ref C_Rule) (.type "str") = some false
  ko_Rule_list : PySem.W.kitOne K (.ref C_Rule) (.type "list") = some false
  ko_Rule_tuple : PySem.W.kitOne K (.ref C_Rule) (.type "tuple") = some false
  ki_Rule_Book : PySem.W.kitOne K (.ref C_Rule) (.ref C_Book) = some false
  ki_Book_Book : PySem.W.kitOne K (.ref C_Book) (.ref C_Book) = some true
  ki_Sending_Book : PySem.W.kitOne K (.ref C_Sending) (.ref C_Book) = some false
  ki_Listing_Book : PySem.W.kitOne K (.ref C_Listing) (.ref C_Book) = some false
  kb_NoneType_Book : PySem.W.kitOne K (.type "NoneType") (.ref C_Book) = some false
  kb_bool_Book : PySem.W.kitOne K (.type "bool") (.ref C_Book) = some false
  kb_int_Book : PySem.W.kitOne K (.type "int") (.ref C_Book) = some false
  kb_str_Book : PySem.W.kitOne K (.type "str") (.ref C_Book) = some false
  kb_list_Book : PySem.W.kitOne K (.type "list") (.ref C_Book) = some false
  kb_tuple_Book : PySem.W.kitOne K (.type "tuple") (.ref C_Book) = some false
  kb_dict_Book : PySem.W.kitOne K (.type "dict") (.ref C_Book) = some false
  ko_Book_bool : PySem.W.kitOne K (.ref C_Book) (.type "bool") = some false
  ko_Book_int : PySem.W.kitOne K (.ref C_Book) (.type "int") = some false
  ko_Book_str : PySem.W.kitOne K (.ref C_Book) (.type "str") = some false
  ko_Book_list : PySem.W.kitOne K (.ref C_Book) (.type "list") = some false
  ko_Book_tuple : PySem.W.kitOne K (.ref C_Book) (.type "tuple") = some false
  ki_Rule_Sending : PySem.W.kitOne K (.ref C_Rule) (.ref C_Sending) = some false
  ki_Book_Sending : PySem.W.kitOne K (.ref C_Book) (.ref C_Sending) = some false
  ki_Sending_Sending : PySem.W.kitOne K (.ref C_Sending) (.ref C_Sending) = some true
  ki_Listing_Sending : PySem.W.kitOne K (.ref C_Listing) (.ref C_Sending) = some false
  kb_NoneType_Sending : PySem.W.kitOne K (.type "NoneType") (.ref C_Sending) = some false
  kb_bool_Sending : PySem.W.kitOne K (.type "bool") (.ref C_Sending) = some false
  kb_int_Sending : PySem.W.kitOne K (.type "int") (.ref C_Sending) = some false
  kb_str_Sending : PySem.W.kitOne K (.type "str") (.ref C_Sending) = some false
  kb_list_Sending : PySem.W.kitOne K (.type "list") (.ref C_Sending) = some false
  kb_tuple_Sending : PySem.W.kitOne K (.type "tuple") (.ref C_Sending) = some false
  kb_dict_Sending : PySem.W.kitOne K (.type "dict") (.ref C_Sending) = some false
  ko_Sending_bool : PySem.W.kitOne K (.ref C_Sending) (.type "bool") = some false
  ko_Sending_int : PySem.W.kitOne K (.ref C_Sending) (.type "int") = some false
  ko_Sending_str : PySem.W.kitOne K (.ref C_Sending) (.type "str") = some false
  ko_Sending_list : PySem.W.kitOne K (.ref C_Sending) (.type "list") = some false
  ko_Sending_tuple : PySem.W.kitOne K (.ref C_Sending) (.type "tuple") = some false
  ki_Rule_Listing : PySem.W.kitOne K (.ref C_Rule) (.ref C_Listing) = some false
  ki_Book_Listing : PySem.W.kitOne K (.ref C_Book) (.ref C_Listing) = some false
  ki_Sending_Listing : PySem.W.kitOne K (.ref C_Sending) (.ref C_Listing) = some false
  ki_Listing_Listing : PySem.W.kitOne K (.ref C_Listing) (.ref C_Listing) = some true
  kb_NoneType_Listing : PySem.W.kitOne K (.type "NoneType") (.ref C_Listing) = some false
  kb_bool_Listing : PySem.W.kitOne K (.type "bool") (.ref C_Listing) = some false
  kb_int_Listing : PySem.W.kitOne K (.type "int") (.ref C_Listing) = some false
  kb_str_Listing : PySem.W.kitOne K (.type "str") (.ref C_Listing) = some false
  kb_list_Listing : PySem.W.kitOne K (.type "list") (.ref C_Listing) = some false
  kb_tuple_Listing : PySem.W.kitOne K (.type "tuple") (.ref C_Listing) = some false
  kb_dict_Listing : PySem.W.kitOne K (.type "dict") (.ref C_Listing) = some false
  ko_Listing_bool : PySem.W.kitOne K (.ref C_Listing) (.type "bool") = some false
  ko_Listing_int : PySem.W.kitOne K (.ref C_Listing) (.type "int") = some false
  ko_Listing_str : PySem.W.kitOne K (.ref C_Listing) (.type "str") = some false
  ko_Listing_list : PySem.W.kitOne K (.ref C_Listing) (.type "list") = some false
  ko_Listing_tuple : PySem.W.kitOne K (.ref C_Listing) (.type "tuple") = some false
  C_RecorderError : Addr
  g_RecorderError : mg "RecorderError" = some (.ref C_RecorderError)
  kc_RecorderError : PySem.W.keepIn K (.ref C_RecorderError) = true
  C_InvalidSending : Addr
  g_InvalidSending : mg "InvalidSending" = some (.ref C_InvalidSending)
  kc_InvalidSending : PySem.W.keepIn K (.ref C_InvalidSending) = true
  r_InvalidSending : PySem.W.subIn K (.ref C_InvalidSending) (.type "BaseException") = some true
  ty_InvalidSending : PySem.W.typeIn K (.ref C_InvalidSending) = some (.type "type")
  f_InvalidSending_init : Addr
  T_InvalidSending : OexC K C_InvalidSending
  i_InvalidSending : PySem.W.findIn K (.ref C_InvalidSending) "__init__" = some (some (.ref f_InvalidSending_init))
  t_InvalidSending : PySem.W.typeIn K (.ref f_InvalidSending_init) = some (.type "function")
  X_InvalidSending : XfC K C_InvalidSending
  nf_InvalidSending : PySem.W.findIn K (.ref C_InvalidSending) "part" = some none
  d_InvalidSending_init : FuncData
  F_InvalidSending_init : Fun K "__init__" "InvalidSending.__init__" s_InvalidSending_init f_InvalidSending_init d_InvalidSending_init
  C_InvalidListing : Addr
  g_InvalidListing : mg "InvalidListing" = some (.ref C_InvalidListing)
  kc_InvalidListing : PySem.W.keepIn K (.ref C_InvalidListing) = true
  r_InvalidListing : PySem.W.subIn K (.ref C_InvalidListing) (.type "BaseException") = some true
  ty_InvalidListing : PySem.W.typeIn K (.ref C_InvalidListing) = some (.type "type")
  f_InvalidListing_init : Addr
  T_InvalidListing : OexC K C_InvalidListing
  i_InvalidListing : PySem.W.findIn K (.ref C_InvalidListing) "__init__" = some (some (.ref f_InvalidListing_init))
  t_InvalidListing : PySem.W.typeIn K (.ref f_InvalidListing_init) = some (.type "function")
  X_InvalidListing : XfC K C_InvalidListing
  nf_InvalidListing : PySem.W.findIn K (.ref C_InvalidListing) "name" = some none
  d_InvalidListing_init : FuncData
  F_InvalidListing_init : Fun K "__init__" "InvalidListing.__init__" s_InvalidListing_init f_InvalidListing_init d_InvalidListing_init
  C_UnknownName : Addr
  g_UnknownName : mg "UnknownName" = some (.ref C_UnknownName)
  kc_UnknownName : PySem.W.keepIn K (.ref C_UnknownName) = true
  r_UnknownName : PySem.W.subIn K (.ref C_UnknownName) (.type "BaseException") = some true
  ty_UnknownName : PySem.W.typeIn K (.ref C_UnknownName) = some (.type "type")
  x_UnknownName : ValX K C_UnknownName
  C_InvalidRule : Addr
  g_InvalidRule : mg "InvalidRule" = some (.ref C_InvalidRule)
  kc_InvalidRule : PySem.W.keepIn K (.ref C_InvalidRule) = true
  r_InvalidRule : PySem.W.subIn K (.ref C_InvalidRule) (.type "BaseException") = some true
  ty_InvalidRule : PySem.W.typeIn K (.ref C_InvalidRule) = some (.type "type")
  f_InvalidRule_init : Addr
  T_InvalidRule : OexC K C_InvalidRule
  i_InvalidRule : PySem.W.findIn K (.ref C_InvalidRule) "__init__" = some (some (.ref f_InvalidRule_init))
  t_InvalidRule : PySem.W.typeIn K (.ref f_InvalidRule_init) = some (.type "function")
  X_InvalidRule : XfC K C_InvalidRule
  nf_InvalidRule : PySem.W.findIn K (.ref C_InvalidRule) "part" = some none
  d_InvalidRule_init : FuncData
  F_InvalidRule_init : Fun K "__init__" "InvalidRule.__init__" s_InvalidRule_init f_InvalidRule_init d_InvalidRule_init
  C_InvalidBook : Addr
  g_InvalidBook : mg "InvalidBook" = some (.ref C_InvalidBook)
  kc_InvalidBook : PySem.W.keepIn K (.ref C_InvalidBook) = true
  r_InvalidBook : PySem.W.subIn K (.ref C_InvalidBook) (.type "BaseException") = some true
  ty_InvalidBook : PySem.W.typeIn K (.ref C_InvalidBook) = some (.type "type")
  x_InvalidBook : ValX K C_InvalidBook
  C_NotWished : Addr
  g_NotWished : mg "NotWished" = some (.ref C_NotWished)
  kc_NotWished : PySem.W.keepIn K (.ref C_NotWished) = true
  r_NotWished : PySem.W.subIn K (.ref C_NotWished) (.type "BaseException") = some true
  ty_NotWished : PySem.W.typeIn K (.ref C_NotWished) = some (.type "type")
  x_NotWished : ValX K C_NotWished
  C_InvalidNumber : Addr
  g_InvalidNumber : mg "InvalidNumber" = some (.ref C_InvalidNumber)
  kc_InvalidNumber : PySem.W.keepIn K (.ref C_InvalidNumber) = true
  r_InvalidNumber : PySem.W.subIn K (.ref C_InvalidNumber) (.type "BaseException") = some true
  ty_InvalidNumber : PySem.W.typeIn K (.ref C_InvalidNumber) = some (.type "type")
  x_InvalidNumber : ValX K C_InvalidNumber
  C_InvalidPool : Addr
  g_InvalidPool : mg "InvalidPool" = some (.ref C_InvalidPool)
  kc_InvalidPool : PySem.W.keepIn K (.ref C_InvalidPool) = true
  C_InvalidLog : Addr
  g_InvalidLog : mg "InvalidLog" = some (.ref C_InvalidLog)
  kc_InvalidLog : PySem.W.keepIn K (.ref C_InvalidLog) = true
  C_NoFit : Addr
  g_NoFit : mg "NoFit" = some (.ref C_NoFit)
  kc_NoFit : PySem.W.keepIn K (.ref C_NoFit) = true
  C_InvalidBooks : Addr
  g_InvalidBooks : mg "InvalidBooks" = some (.ref C_InvalidBooks)
  kc_InvalidBooks : PySem.W.keepIn K (.ref C_InvalidBooks) = true
  C_UnknownChannel : Addr
  g_UnknownChannel : mg "UnknownChannel" = some (.ref C_UnknownChannel)
  kc_UnknownChannel : PySem.W.keepIn K (.ref C_UnknownChannel) = true
  C_NoDelay : Addr
  g_NoDelay : mg "NoDelay" = some (.ref C_NoDelay)
  kc_NoDelay : PySem.W.keepIn K (.ref C_NoDelay) = true
  C_InvalidRows : Addr
  g_InvalidRows : mg "InvalidRows" = some (.ref C_InvalidRows)
  kc_InvalidRows : PySem.W.keepIn K (.ref C_InvalidRows) = true
  C_InvalidSpan : Addr
  g_InvalidSpan : mg "InvalidSpan" = some (.ref C_InvalidSpan)
  kc_InvalidSpan : PySem.W.keepIn K (.ref C_InvalidSpan) = true
  C_DoubleName : Addr
  g_DoubleName : mg "DoubleName" = some (.ref C_DoubleName)
  kc_DoubleName : PySem.W.keepIn K (.ref C_DoubleName) = true
  C_InvalidName : Addr
  g_InvalidName : mg "InvalidName" = some (.ref C_InvalidName)
  kc_InvalidName : PySem.W.keepIn K (.ref C_InvalidName) = true
  C_UnknownMark : Addr
  g_UnknownMark : mg "UnknownMark" = some (.ref C_UnknownMark)
  kc_UnknownMark : PySem.W.keepIn K (.ref C_UnknownMark) = true
  C_InvalidOperation : Addr
  g_InvalidOperation : mg "InvalidOperation" = some (.ref C_InvalidOperation)
  kc_InvalidOperation : PySem.W.keepIn K (.ref C_InvalidOperation) = true
  C_InvalidRow : Addr
  g_InvalidRow : mg "InvalidRow" = some (.ref C_InvalidRow)
  kc_InvalidRow : PySem.W.keepIn K (.ref C_InvalidRow) = true
  C_DecodeError : Addr
  g_DecodeError : mg "DecodeError" = some (.ref C_DecodeError)
  kc_DecodeError : PySem.W.keepIn K (.ref C_DecodeError) = true
  C_DaybookError : Addr
  g_DaybookError : mg "DaybookError" = some (.ref C_DaybookError)
  kc_DaybookError : PySem.W.keepIn K (.ref C_DaybookError) = true
  em_InvalidSending_RecorderError : PySem.W.exmOne K (.ref C_InvalidSending) (.ref C_RecorderError) = some true
  em_InvalidListing_RecorderError : PySem.W.exmOne K (.ref C_InvalidListing) (.ref C_RecorderError) = some true
  em_UnknownName_RecorderError : PySem.W.exmOne K (.ref C_UnknownName) (.ref C_RecorderError) = some true
  em_InvalidRule_RecorderError : PySem.W.exmOne K (.ref C_InvalidRule) (.ref C_RecorderError) = some true
  em_InvalidBook_RecorderError : PySem.W.exmOne K (.ref C_InvalidBook) (.ref C_RecorderError) = some true
  em_NotWished_RecorderError : PySem.W.exmOne K (.ref C_NotWished) (.ref C_RecorderError) = some true
  em_InvalidNumber_RecorderError : PySem.W.exmOne K (.ref C_InvalidNumber) (.ref C_RecorderError) = some true
  kv_InvalidNumber : PySem.W.kitOne K (.ref C_InvalidNumber) (.type "ValueError") = some true
  ec_InvalidNumber : ExcC K C_InvalidNumber
  ke_InvalidNumber_DecodeError : PySem.W.kitOne K (.ref C_InvalidNumber) (.ref C_DecodeError) = some false
  ke_InvalidNumber_InvalidBook : PySem.W.kitOne K (.ref C_InvalidNumber) (.ref C_InvalidBook) = some false
  ke_InvalidNumber_InvalidRow : PySem.W.kitOne K (.ref C_InvalidNumber) (.ref C_InvalidRow) = some false
  ke_InvalidNumber_UnknownMark : PySem.W.kitOne K (.ref C_InvalidNumber) (.ref C_UnknownMark) = some false
  ke_InvalidNumber_InvalidSpan : PySem.W.kitOne K (.ref C_InvalidNumber) (.ref C_InvalidSpan) = some false
  ke_InvalidNumber_InvalidNumber : PySem.W.kitOne K (.ref C_InvalidNumber) (.ref C_InvalidNumber) = some true
  ke_InvalidNumber_InvalidListing : PySem.W.kitOne K (.ref C_InvalidNumber) (.ref C_InvalidListing) = some false
  ke_InvalidNumber_InvalidName : PySem.W.kitOne K (.ref C_InvalidNumber) (.ref C_InvalidName) = some false
  ke_InvalidNumber_UnknownChannel : PySem.W.kitOne K (.ref C_InvalidNumber) (.ref C_UnknownChannel) = some false
  ke_InvalidNumber_NoDelay : PySem.W.kitOne K (.ref C_InvalidNumber) (.ref C_NoDelay) = some false
  ke_InvalidNumber_InvalidOperation : PySem.W.kitOne K (.ref C_InvalidNumber) (.ref C_InvalidOperation) = some false
  ke_InvalidNumber_NoFit : PySem.W.kitOne K (.ref C_InvalidNumber) (.ref C_NoFit) = some false
  ke_InvalidNumber_InvalidSending : PySem.W.kitOne K (.ref C_InvalidNumber) (.ref C_InvalidSending) = some false
  ke_InvalidNumber_InvalidRule : PySem.W.kitOne K (.ref C_InvalidNumber) (.ref C_InvalidRule) = some false
  ke_InvalidNumber_InvalidLog : PySem.W.kitOne K (.ref C_InvalidNumber) (.ref C_InvalidLog) = some false
  ke_InvalidNumber_InvalidPool : PySem.W.kitOne K (.ref C_InvalidNumber) (.ref C_InvalidPool) = some false
  ke_InvalidNumber_InvalidRows : PySem.W.kitOne K (.ref C_InvalidNumber) (.ref C_InvalidRows) = some false
  ke_InvalidNumber_DaybookError : PySem.W.kitOne K (.ref C_InvalidNumber) (.ref C_DaybookError) = some false
  ke_InvalidNumber_UnknownName : PySem.W.kitOne K (.ref C_InvalidNumber) (.ref C_UnknownName) = some false
  ke_InvalidNumber_InvalidBooks : PySem.W.kitOne K (.ref C_InvalidNumber) (.ref C_InvalidBooks) = some false
  ke_InvalidNumber_DoubleName : PySem.W.kitOne K (.ref C_InvalidNumber) (.ref C_DoubleName) = some false
section
variable {K : PySem.W.Frag} {mg : Str → Option Value}
theorem En.b_is_word (S : En K mg) : Binds K S.d_is_word ["value"] [] := S.F_is_word.binds fun _ _ _ _ _ _ us hl => match us, hl with | [_], _ => rfl
theorem En.b_is_number (S : En K mg) : Binds K S.d_is_number ["value", "least", "greatest"] [] := S.F_is_number.binds fun _ _ _ _ _ _ us hl => match us, hl with | [_, _, _], _ => rfl
theorem En.b_is_receivers (S : En K mg) : Binds K S.d_is_receivers ["value"] [] := S.F_is_receivers.binds fun _ _ _ _ _ _ us hl => match us, hl with | [_], _ => rfl
theorem En.b_check_receivers (S : En K mg) : Binds K S.d_check_receivers ["value"] [] := S.F_check_receivers.binds fun _ _ _ _ _ _ us hl => match us, hl with | [_], _ => rfl
theorem En.b_episode_of (S : En K mg) : Binds K S.d_episode_of ["sending"] [] := S.F_episode_of.binds fun _ _ _ _ _ _ us hl => match us, hl with | [_], _ => rfl
theorem En.b_rule_for (S : En K mg) : Binds K S.d_rule_for ["book", "sending"] [] := S.F_rule_for.binds fun _ _ _ _ _ _ us hl => match us, hl with | [_, _], _ => rfl
theorem En.b_wished_names (S : En K mg) : Binds K S.d_wished_names ["book", "listing"] [] := S.F_wished_names.binds fun _ _ _ _ _ _ us hl => match us, hl with | [_, _], _ => rfl
theorem En.b_window (S : En K mg) : Binds K S.d_window ["book", "listing", "name"] [] := S.F_window.binds fun _ _ _ _ _ _ us hl => match us, hl with | [_, _, _], _ => rfl
theorem En.b_wished_windows (S : En K mg) : Binds K S.d_wished_windows ["book", "listing"] [] := S.F_wished_windows.binds fun _ _ _ _ _ _ us hl => match us, hl with | [_, _], _ => rfl
theorem En.b_no_episode_twice (S : En K mg) : Binds K S.d_no_episode_twice ["listing", "names"] [] := S.F_no_episode_twice.binds fun _ _ _ _ _ _ us hl => match us, hl with | [_, _], _ => rfl
theorem En.b_subsets (S : En K mg) : Binds K S.d_subsets ["items", "most"] [] := S.F_subsets.binds fun _ _ _ _ _ _ us hl => match us, hl with | [_, _], _ => rfl
theorem En.b_open_at (S : En K mg) : Binds K S.d_open_at ["windows", "names", "minute"] [] := S.F_open_at.binds fun _ _ _ _ _ _ us hl => match us, hl with | [_, _, _], _ => rfl
theorem En.b_most_at_once (S : En K mg) : Binds K S.d_most_at_once ["windows", "names"] [] := S.F_most_at_once.binds fun _ _ _ _ _ _ us hl => match us, hl with | [_, _], _ => rfl
theorem En.b_without_doubles (S : En K mg) : Binds K S.d_without_doubles ["listing", "names"] [] := S.F_without_doubles.binds fun _ _ _ _ _ _ us hl => match us, hl with | [_, _], _ => rfl
theorem En.b_choices_among (S : En K mg) : Binds K S.d_choices_among ["listing", "windows", "receivers"] [] := S.F_choices_among.binds fun _ _ _ _ _ _ us hl => match us, hl with | [_, _, _], _ => rfl
theorem En.b_all_choices (S : En K mg) : Binds K S.d_all_choices ["book", "listing", "receivers"] [] := S.F_all_choices.binds fun _ _ _ _ _ _ us hl => match us, hl with | [_, _, _], _ => rfl
theorem En.b_worth (S : En K mg) : Binds K S.d_worth ["book", "listing", "names"] [] := S.F_worth.binds fun _ _ _ _ _ _ us hl => match us, hl with | [_, _, _], _ => rfl
theorem En.b_steady_choice (S : En K mg) : Binds K S.d_steady_choice ["book", "listing", "receivers", "names"] [] := S.F_steady_choice.binds fun _ _ _ _ _ _ us hl => match us, hl with | [_, _, _, _], _ => rfl
theorem En.b_wrong_part_books (S : En K mg) : Binds K S.d_wrong_part_books ["show", "first", "last", "priority", "before", "after"] [] := S.F_wrong_part_books.binds fun _ _ _ _ _ _ us hl => match us, hl with | [_, _, _, _, _, _], _ => rfl
theorem En.b_wrong_part_listings (S : En K mg) : Binds K S.d_wrong_part_listings ["channel", "show", "episode", "begin", "end", "late"] [] := S.F_wrong_part_listings.binds fun _ _ _ _ _ _ us hl => match us, hl with | [_, _, _, _, _, _], _ => rfl
theorem En.b_law_begun (S : En K mg) : Binds K S.d_law_begun ["_law_script"] [] := S.F_law_begun.binds fun _ _ _ _ _ _ us hl => match us, hl with | [_], _ => rfl
theorem En.b_law_take (S : En K mg) : Binds K S.d_law_take ["_law_box", "_law_many"] [] := S.F_law_take.binds fun _ _ _ _ _ _ us hl => match us, hl with | [_, _], _ => rfl
theorem En.b_law_alike (S : En K mg) : Binds K S.d_law_alike ["_law_found", "_law_due"] [] := S.F_law_alike.binds fun _ _ _ _ _ _ us hl => match us, hl with | [_, _], _ => rfl
theorem En.b_law_sending (S : En K mg) : Binds K S.d_law_sending ["_law_box"] [] := S.F_law_sending.binds fun _ _ _ _ _ _ us hl => match us, hl with | [_], _ => rfl
theorem En.b_law_listing (S : En K mg) : Binds K S.d_law_listing ["_law_box", "_law_most_here"] [] := S.F_law_listing.binds fun _ _ _ _ _ _ us hl => match us, hl with | [_, _], _ => rfl
theorem En.b_law_rule (S : En K mg) : Binds K S.d_law_rule ["_law_box"] [] := S.F_law_rule.binds fun _ _ _ _ _ _ us hl => match us, hl with | [_], _ => rfl
theorem En.b_law_wishes_of (S : En K mg) : Binds K S.d_law_wishes_of ["_law_box", "_law_most_here"] [] := S.F_law_wishes_of.binds fun _ _ _ _ _ _ us hl => match us, hl with | [_, _], _ => rfl
theorem En.b_law_rule_of (S : En K mg) : Binds K S.d_law_rule_of ["_law_book", "_law_sending_here"] [] := S.F_law_rule_of.binds fun _ _ _ _ _ _ us hl => match us, hl with | [_, _], _ => rfl
theorem En.b_law_windows (S : En K mg) : Binds K S.d_law_windows ["_law_book", "_law_listing_here"] [] := S.F_law_windows.binds fun _ _ _ _ _ _ us hl => match us, hl with | [_, _], _ => rfl
theorem En.b_law_choices (S : En K mg) : Binds K S.d_law_choices ["_law_windows_here", "_law_listing_here", "_law_receivers"] [] := S.F_law_choices.binds fun _ _ _ _ _ _ us hl => match us, hl with | [_, _, _], _ => rfl
theorem En.b_law_most (S : En K mg) : Binds K S.d_law_most ["_law_windows_here", "_law_some"] [] := S.F_law_most.binds fun _ _ _ _ _ _ us hl => match us, hl with | [_, _], _ => rfl
theorem En.b_law_error (S : En K mg) : Binds K S.d_law_error ["_law_work"] [] := S.F_law_error.binds fun _ _ _ _ _ _ us hl => match us, hl with | [_], _ => rfl
theorem En.b_law_named (S : En K mg) : Binds K S.d_law_named ["_law_name", "_law_error_here"] [] := S.F_law_named.binds fun _ _ _ _ _ _ us hl => match us, hl with | [_, _], _ => rfl
theorem En.e7_Rule_init (S : En K mg) : ∃ ds, Vals (List.drop 2 [.int 0, .int 0]) ds ∧ Binds K S.d_Rule_init ["self", "show", "first", "last", "priority", "before", "after"] ds := FunD.binds1 S.F_Rule_init 7 2 (by simp) rfl fun _ _ _ _ _ _ _ us its hl hi => match us, its, hl, hi with | [_, _, _, _, _, _, _], [_, _], _, _ => ⟨_, rfl, rfl⟩
noncomputable def En.w7_Rule_init (S : En K mg) : List Value := Classical.choose S.e7_Rule_init
theorem En.v7_Rule_init (S : En K mg) : Vals (List.drop 2 [.int 0, .int 0]) S.w7_Rule_init := (Classical.choose_spec S.e7_Rule_init).1
theorem En.b7_Rule_init (S : En K mg) : Binds K S.d_Rule_init ["self", "show", "first", "last", "priority", "before", "after"] S.w7_Rule_init := (Classical.choose_spec S.e7_Rule_init).2
theorem En.b_Rule_show (S : En K mg) : Binds K S.d_Rule_show ["self"] [] := S.F_Rule_show.binds fun _ _ _ _ _ _ us hl => match us, hl with | [_], _ => rfl
theorem En.b_Rule_first (S : En K mg) : Binds K S.d_Rule_first ["self"] [] := S.F_Rule_first.binds fun _ _ _ _ _ _ us hl => match us, hl with | [_], _ => rfl
theorem En.b_Rule_last (S : En K mg) : Binds K S.d_Rule_last ["self"] [] := S.F_Rule_last.binds fun _ _ _ _ _ _ us hl => match us, hl with | [_], _ => rfl
theorem En.b_Rule_priority (S : En K mg) : Binds K S.d_Rule_priority ["self"] [] := S.F_Rule_priority.binds fun _ _ _ _ _ _ us hl => match us, hl with | [_], _ => rfl
theorem En.b_Rule_before (S : En K mg) : Binds K S.d_Rule_before ["self"] [] := S.F_Rule_before.binds fun _ _ _ _ _ _ us hl => match us, hl with | [_], _ => rfl
theorem En.b_Rule_after (S : En K mg) : Binds K S.d_Rule_after ["self"] [] := S.F_Rule_after.binds fun _ _ _ _ _ _ us hl => match us, hl with | [_], _ => rfl
theorem En.e3_Book_init (S : En K mg) : ∃ ds, Vals (List.drop 1 [.ref S.a_Book_init]) ds ∧ Binds K S.d_Book_init ["self", "rules", "seen"] ds := FunD.binds1 S.F_Book_init 3 1 (by simp) rfl fun _ _ _ _ _ _ _ us its hl hi => match us, its, hl, hi with | [_, _, _], [_], _, _ => ⟨_, rfl, rfl⟩
noncomputable def En.w3_Book_init (S : En K mg) : List Value := Classical.choose S.e3_Book_init
theorem En.v3_Book_init (S : En K mg) : Vals (List.drop 1 [.ref S.a_Book_init]) S.w3_Book_init := (Classical.choose_spec S.e3_Book_init).1
theorem En.b3_Book_init (S : En K mg) : Binds K S.d_Book_init ["self", "rules", "seen"] S.w3_Book_init := (Classical.choose_spec S.e3_Book_init).2
theorem En.b_Book_rules (S : En K mg) : Binds K S.d_Book_rules ["self"] [] := S.F_Book_rules.binds fun _ _ _ _ _ _ us hl => match us, hl with | [_], _ => rfl
theorem En.b_Book_seen (S : En K mg) : Binds K S.d_Book_seen ["self"] [] := S.F_Book_seen.binds fun _ _ _ _ _ _ us hl => match us, hl with | [_], _ => rfl
theorem En.b_Book_rule_of (S : En K mg) : Binds K S.d_Book_rule_of ["self", "show", "episode"] [] := S.F_Book_rule_of.binds fun _ _ _ _ _ _ us hl => match us, hl with | [_, _, _], _ => rfl
theorem En.e7_Sending_init (S : En K mg) : ∃ ds, Vals (List.drop 1 [.int 0]) ds ∧ Binds K S.d_Sending_init ["self", "channel", "show", "episode", "begin", "end", "late"] ds := FunD.binds1 S.F_Sending_init 7 1 (by simp) rfl fun _ _ _ _ _ _ _ us its hl hi => match us, its, hl, hi with | [_, _, _, _, _, _, _], [_], _, _ => ⟨_, rfl, rfl⟩
noncomputable def En.w7_Sending_init (S : En K mg) : List Value := Classical.choose S.e7_Sending_init
theorem En.v7_Sending_init (S : En K mg) : Vals (List.drop 1 [.int 0]) S.w7_Sending_init := (Classical.choose_spec S.e7_Sending_init).1
theorem En.b7_Sending_init (S : En K mg) : Binds K S.d_Sending_init ["self", "channel", "show", "episode", "begin", "end", "late"] S.w7_Sending_init := (Classical.choose_spec S.e7_Sending_init).2
theorem En.b_Sending_show (S : En K mg) : Binds K S.d_Sending_show ["self"] [] := S.F_Sending_show.binds fun _ _ _ _ _ _ us hl => match us, hl with | [_], _ => rfl
theorem En.b_Sending_episode (S : En K mg) : Binds K S.d_Sending_episode ["self"] [] := S.F_Sending_episode.binds fun _ _ _ _ _ _ us hl => match us, hl with | [_], _ => rfl
theorem En.b_Sending_begin (S : En K mg) : Binds K S.d_Sending_begin ["self"] [] := S.F_Sending_begin.binds fun _ _ _ _ _ _ us hl => match us, hl with | [_], _ => rfl
theorem En.b_Sending_end (S : En K mg) : Binds K S.d_Sending_end ["self"] [] := S.F_Sending_end.binds fun _ _ _ _ _ _ us hl => match us, hl with | [_], _ => rfl
theorem En.b_Listing_init (S : En K mg) : Binds K S.d_Listing_init ["self", "sendings"] [] := S.F_Listing_init.binds fun _ _ _ _ _ _ us hl => match us, hl with | [_, _], _ => rfl
theorem En.b_Listing_names (S : En K mg) : Binds K S.d_Listing_names ["self"] [] := S.F_Listing_names.binds fun _ _ _ _ _ _ us hl => match us, hl with | [_], _ => rfl
theorem En.b_Listing_getitem (S : En K mg) : Binds K S.d_Listing_getitem ["self", "name"] [] := S.F_Listing_getitem.binds fun _ _ _ _ _ _ us hl => match us, hl with | [_, _], _ => rfl
theorem En.b_InvalidSending_init (S : En K mg) : Binds K S.d_InvalidSending_init ["self", "part"] [] := S.F_InvalidSending_init.binds fun _ _ _ _ _ _ us hl => match us, hl with | [_, _], _ => rfl
theorem En.b_InvalidListing_init (S : En K mg) : Binds K S.d_InvalidListing_init ["self", "name"] [] := S.F_InvalidListing_init.binds fun _ _ _ _ _ _ us hl => match us, hl with | [_, _], _ => rfl
theorem En.b_InvalidRule_init (S : En K mg) : Binds K S.d_InvalidRule_init ["self", "part"] [] := S.F_InvalidRule_init.binds fun _ _ _ _ _ _ us hl => match us, hl with | [_, _], _ => rfl
abbrev En.tp_law (S : En K mg) : Addr := He.tabOf K S.tc_law
end
section
variable {P : Program} {w : World} {K : PySem.W.Frag} {mg : Str → Option Value} {base : Heap}
theorem ok_InvalidSending (S : En K mg) : FnOk P w K mg base CX0 1 S.f_InvalidSending_init S.d_InvalidSending_init ["self", "part"] (spX1 "part" S.C_InvalidSending) := ok_x1 S.F_InvalidSending_init sc_InvalidSending_init S.T_InvalidSending S.nf_InvalidSending (fun _ _ _ _ _ _ => pss_one (ps_ost (pv 0) (pv 1)))
theorem ok_InvalidListing (S : En K mg) : FnOk P w K mg base CX0 1 S.f_InvalidListing_init S.d_InvalidListing_init ["self", "name"] (spX1 "name" S.C_InvalidListing) := ok_x1 S.F_InvalidListing_init sc_InvalidListing_init S.T_InvalidListing S.nf_InvalidListing (fun _ _ _ _ _ _ => pss_one (ps_ost (pv 0) (pv 1)))
theorem ok_InvalidRule (S : En K mg) : FnOk P w K mg base CX0 1 S.f_InvalidRule_init S.d_InvalidRule_init ["self", "part"] (spX1 "part" S.C_InvalidRule) := ok_x1 S.F_InvalidRule_init sc_InvalidRule_init S.T_InvalidRule S.nf_InvalidRule (fun _ _ _ _ _ _ => pss_one (ps_ost (pv 0) (pv 1)))
end
section
variable {P : Program} {w : World} {K : PySem.W.Frag} {mg : Str → Option Value} {base : Heap}
theorem ok_is_word (S : En K mg) : FnOk P w K mg base (L2.CX P w) 1 S.f_is_word S.d_is_word ["value"] (lowF K ctWord) := by
  refine fn_low _ S.F_is_word sc_is_word (fun ss st ok ex h => ?_) ?_ (fun cdv A outer s H E hr tk po => (bone (sret (dand (disi K S.n_isinstance S.n_str kb_str (dv 0)) (dand (dchain op_le op_le lr_le lr_le di (dcb call_len_str lc_lenS S.n_len PySem.boot_len (acons (dv 0) anil)) di) (done (dcb (cr_all rfl) lc_all S.n_all PyProof.Rows.boot_all (acons (dlc [("letter", 1)] sc_is_word.nd (iS (dv 0)) (blkOk_by (N := ["value", "letter"]) (sc := defScope s_is_word) (by decide +kernel)) (fun _ _ _ _ _ => (gwname 1 sc_is_word.nd)) (fun _ _ _ _ _ => tsnil) (fun _ _ _ _ _ => (dchain op_le_str op_le_str lr_leStr lr_leStr ds (dv 1) ds))) anil))))))))
  · (repeat (first | (obtain ⟨rfl, _⟩ := h; rfl) | (obtain ⟨_, h⟩ := h)))
  · rintro ss st ok ex ⟨x, rfl, hx, k⟩
    cases x with
    | str z =>
      walk_at "d"
      walk_at "w"
      refine ⟨hx, ?_⟩
      walk_at "w"
      refine ⟨fun h1 => ?_, fun h1 => ?_⟩
      · walk_at "w"
        refine ⟨fun h2 => ?_, fun h2 => ?_⟩
        · walk_at "w"
          have hl8 : z.cps.toList.length ≤ sizeLine := hx
          refine lc_pure z.cps.toList (fun c => .str ⟨#[c]⟩) (fun c => some (.bl (decide (97 ≤ c) && decide (c ≤ 122)))) rfl ?_ ?_
          · intro i c D acc hc hD J
            walk_at "d"
            walk_at "w"
            have e1 : (!decide ((⟨#[c]⟩ : Str).cps.toList < (Str.ofString "a").cps.toList)) = decide (97 ≤ c) := le_a c
            have e2 : (!decide ((Str.ofString "z").cps.toList < (⟨#[c]⟩ : Str).cps.toList)) = decide (c ≤ 122) := le_z c
            refine ⟨fun h => ?_, fun h => ?_⟩
            · walk_at "w"
              have h' : decide (97 ≤ c) = true := by rw [← e1]; exact h
              exact lc_yes hl8 hc J (by rw [h', Bool.true_and, ← e2])
            · walk_at "w"
              have h' : decide (97 ≤ c) = false := by rw [← e1]; exact h
              exact lc_yes hl8 hc J (by rw [h', Bool.false_and])
          · walk_at "w"
            refine ⟨z.cps.toList.map fun c => decide (97 ≤ c) && decide (c ≤ 122), ?_, ?_⟩
            · rw [List.map_map, ← List.filterMap_eq_map]
              rfl
            · walk_at "f"
              have hk : wordD (.str z) = (z.cps.toList.map fun c => decide (97 ≤ c) && decide (c ≤ 122)).all id := by
                unfold wordD isWord
                dsimp only
                rw [h1, h2, List.all_map]
                rfl
              rw [hk] at k
              exact k
        · walk_at "f"
          have hk : wordD (.str z) = false := by unfold wordD isWord; dsimp only; rw [h2, Bool.and_false, Bool.false_and]
          rw [hk] at k
          exact k
      · walk_at "d"
        walk_at "f"
        have hk : wordD (.str z) = false := by unfold wordD isWord; dsimp only; rw [h1, Bool.false_and, Bool.false_and]
        rw [hk] at k
        exact k
    | non => walk_at "d"; walk_at "f"; exact k
    | bl b => walk_at "d"; walk_at "f"; exact k
    | int i => walk_at "d"; walk_at "f"; exact k
    | _ => cases hx
theorem ok_is_number (S : En K mg) : FnOk P w K mg base (L2.CX P w) 1 S.f_is_number S.d_is_number ["value", "least", "greatest"] (lowF K ctNum) := by
  refine fn_low _ S.F_is_number sc_is_number (fun ss st ok ex h => ?_) ?_ (fun cdv A outer s H E hr tk po => (bone (sret (dand (disi K S.n_isinstance S.n_int kb_int (dv 0)) (dand (dnot (disi K S.n_isinstance S.n_bool kb_bool (dv 0))) (done (dchain op_le op_le lr_le lr_le (dv 1) (dv 0) (dv 2))))))))
  · (repeat (first | (obtain ⟨rfl, _⟩ := h; rfl) | (obtain ⟨_, h⟩ := h)))
  · rintro ss st ok ex ⟨x, a, b, rfl, hx, k⟩
    cases x with
    | int i =>
      walk_at "d"
      walk_at "d"
      walk_at "w"
      refine ⟨fun h => ?_, fun h => ?_⟩
      · walk_at "f"
        have hk : isNum (.int i) a b = decide (i ≤ b) := by unfold isNum; dsimp only; rw [h, Bool.true_and]
        rw [hk] at k
        exact k
      · walk_at "f"
        have hk : isNum (.int i) a b = false := by unfold isNum; dsimp only; rw [h, Bool.false_and]
        rw [hk] at k
        exact k
    | non => walk_at "d"; walk_at "f"; exact k
    | bl b => walk_at "d"; walk_at "d"; walk_at "f"; exact k
    | str i => walk_at "d"; walk_at "f"; exact k
    | _ => cases hx
theorem ok_Listing_getitem (S : En K mg) : FnOk P w K mg base (L2.CX P w) 1 S.f_Listing_getitem S.d_Listing_getitem ["self", "name"] (lowF K (ctItem ⟨S.C_Book, S.C_Rule, S.C_Listing, S.C_Sending⟩)) := by
  refine fn_low _ S.F_Listing_getitem sc_Listing_getitem (fun ss st ok ex h => ?_) ?_ (fun cdv A outer s H E hr tk po => (bcons (sif (tdNi (hu1 hr) (dv 1) (dfld K (dv 0)))
   (bone (sraise0 PySem.F.excBase_ValueError S.x_UnknownName S.g_UnknownName S.kc_UnknownName (raises_own S.r_UnknownName S.ty_UnknownName) tk)) bnil)
  (bone (sret (ddget (hu1 hr) (dfld K (dv 0)) (dv 1))))))
  · rw [ctItem_eq] at h; obtain ⟨_, _, _, rfl, _⟩ := h; rfl
  · intro ss st ok ex h
    rw [ctItem_eq] at h
    obtain ⟨l, n, x, rfl, hx, k⟩ := h
    walk_at "w"
    refine ⟨S.cl_Listing, S.na_Listing_sendings, _, rfl, ?_⟩
    walk_at "w"
    refine ⟨.inr n, rfl, ?_⟩
    have e := getD_dic (Snd.d S.C_Sending) l n
    rw [hx] at e
    rw [e]
    refine ⟨fun h => absurd h Bool.false_ne_true, fun _ => ?_⟩
    walk_at "w"
    refine ⟨S.cl_Listing, S.na_Listing_sendings, _, rfl, ?_⟩
    walk_at "w"
    refine ⟨.inr n, _, rfl, e, ?_⟩
    walk_at "f"
    exact k
theorem ok_is_receivers (S : En K mg) : FnOk P w K mg base (L2.CX P w) 2 S.f_is_receivers S.d_is_receivers ["value"] (lowF K ctIsRecX) := by
  refine fn_low _ S.F_is_receivers sc_is_receivers (fun ss st ok ex h => ?_) ?_ (fun cdv A outer s H E hr tk po => (bone (sret (dcall (dds := []) (ok_is_number S) (hr.mono (by decide)) S.g_is_number S.F_is_number.kp S.b_is_number .nil (fun _ => .nil) tk (acons (dv 0) (acons di (acons (dgl S.c_MOST_RECEIVERS S.r_MOST_RECEIVERS) anil)))))))
  · rcases h with ⟨_, rfl, _⟩ | ⟨_, rfl, _⟩ <;> rfl
  · rintro ss st ok ex (⟨k0, rfl, h1, h2, k⟩ | ⟨d, rfl, ⟨hp, hd⟩, k⟩)
    · walk_at "w"
      refine ⟨.int k0, 1, 10, rfl, trivial, ?_⟩
      rw [show isNum (.int (k0 : Int)) 1 10 = true by unfold isNum; dsimp only; rw [decide_eq_true (by omega), decide_eq_true (by omega)]; rfl]
      walk_at "f"
      exact k
    · walk_at "w"
      refine ⟨d, 1, 10, rfl, hp, ?_⟩
      rw [hd]
      walk_at "f"
      exact k
theorem ok_check_receivers (S : En K mg) : FnOk P w K mg base (L2.CX P w) 3 S.f_check_receivers S.d_check_receivers ["value"] (lowF K (ctChkRecX S.C_InvalidNumber)) := by
  refine fn_low _ S.F_check_receivers sc_check_receivers (fun ss st ok ex h => ?_) ?_ (fun cdv A outer s H E hr tk po => (bone (sif (tnot (tval (dcall (dds := []) (ok_is_receivers S) (hr.mono (by decide)) S.g_is_receivers S.F_is_receivers.kp S.b_is_receivers .nil (fun _ => .nil) tk (acons (dv 0) anil))))
   (bone (sraise0 PySem.F.excBase_ValueError S.x_InvalidNumber S.g_InvalidNumber S.kc_InvalidNumber (raises_own S.r_InvalidNumber S.ty_InvalidNumber) tk)) bnil)))
  · rcases h with ⟨_, rfl, _⟩ | ⟨_, rfl, _⟩ <;> rfl
  · rintro ss st ok ex (⟨k0, rfl, h1, h2, k⟩ | ⟨d, rfl, hd, k⟩)
    · walk_at "w"
      refine Or.inl ⟨k0, rfl, h1, h2, ?_⟩
      walk_at "dd"
      walk_at "w"
      exact ⟨_, List.Sublist.refl _, k⟩
    · walk_at "w"
      refine Or.inr ⟨d, rfl, hd, ?_⟩
      walk_at "ss"
      exact ⟨st, List.Sublist.refl _, k⟩
theorem ok_Rule_show (S : En K mg) : FnOk P w K mg base (L2.CX P w) 1 S.f_Rule_show S.d_Rule_show ["self"] (lowF K (ctGet S.C_Rule "_show")) := by
  refine fn_low _ S.F_Rule_show sc_Rule_show (fun ss st ok ex h => ?_) ?_ (fun cdv A outer s H E hr tk po => (bone (sret (dfld K (dv 0)))))
  · (repeat (first | (obtain ⟨rfl, _⟩ := h; rfl) | (obtain ⟨_, h⟩ := h)))
  · rintro ss st ok ex ⟨fs, d, rfl, hl, k⟩
    walk_at "w"
    refine ⟨S.cl_Rule, S.na_Rule_show, d, hl, ?_⟩
    walk_at "f"
    exact k
theorem ok_Sending_show (S : En K mg) : FnOk P w K mg base (L2.CX P w) 1 S.f_Sending_show S.d_Sending_show ["self"] (lowF K (ctGet S.C_Sending "_show")) := by
  refine fn_low _ S.F_Sending_show sc_Sending_show (fun ss st ok ex h => ?_) ?_ (fun cdv A outer s H E hr tk po => (bone (sret (dfld K (dv 0)))))
  · (repeat (first | (obtain ⟨rfl, _⟩ := h; rfl) | (obtain ⟨_, h⟩ := h)))
  · rintro ss st ok ex ⟨fs, d, rfl, hl, k⟩
    walk_at "w"
    refine ⟨S.cl_Sending, S.na_Sending_show, d, hl, ?_⟩
    walk_at "f"
    exact k
theorem ok_Sending_episode (S : En K mg) : FnOk P w K mg base (L2.CX P w) 1 S.f_Sending_episode S.d_Sending_episode ["self"] (lowF K (ctGet S.C_Sending "_episode")) := by
  refine fn_low _ S.F_Sending_episode sc_Sending_episode (fun ss st ok ex h => ?_) ?_ (fun cdv A outer s H E hr tk po => (bone (sret (dfld K (dv 0)))))
  · (repeat (first | (obtain ⟨rfl, _⟩ := h; rfl) | (obtain ⟨_, h⟩ := h)))
  · rintro ss st ok ex ⟨fs, d, rfl, hl, k⟩
    walk_at "w"
    refine ⟨S.cl_Sending, S.na_Sending_episode, d, hl, ?_⟩
    walk_at "f"
    exact k
theorem ok_episode_of (S : En K mg) : FnOk P w K mg base (L2.CX P w) 3 S.f_episode_of S.d_episode_of ["sending"] (lowF K (ctEp ⟨S.C_Book, S.C_Rule, S.C_Listing, S.C_Sending⟩)) := by
  refine fn_low _ S.F_episode_of sc_episode_of (fun ss st ok ex h => ?_) ?_ (fun cdv A outer s H E hr tk po => (bone (sret (dtup (acons (dprop S.cl_Sending S.p_Sending_show (ok_Sending_show S) (hr.mono (by decide)) S.b_Sending_show (dv 0)) (acons (dprop S.cl_Sending S.p_Sending_episode (ok_Sending_episode S) (hr.mono (by decide)) S.b_Sending_episode (dv 0)) anil))))))
  · (repeat (first | (obtain ⟨rfl, _⟩ := h; rfl) | (obtain ⟨_, h⟩ := h)))
  · rintro ss st ok ex ⟨x, rfl, k⟩
    walk_at "w"
    refine ⟨rfl, _, _, rfl, rfl, ?_⟩
    walk_at "w"
    refine ⟨rfl, _, _, rfl, rfl, ?_⟩
    walk_at "zz"
    walk_at "f"
    exact k
theorem ok_Rule_first (S : En K mg) : FnOk P w K mg base (L2.CX P w) 1 S.f_Rule_first S.d_Rule_first ["self"] (lowF K (ctGet S.C_Rule "_first")) := by
  refine fn_low _ S.F_Rule_first sc_Rule_first (fun ss st ok ex h => ?_) ?_ (fun cdv A outer s H E hr tk po => (bone (sret (dfld K (dv 0)))))
  · (repeat (first | (obtain ⟨rfl, _⟩ := h; rfl) | (obtain ⟨_, h⟩ := h)))
  · rintro ss st ok ex ⟨fs, d, rfl, hl, k⟩
    walk_at "w"
    refine ⟨S.cl_Rule, S.na_Rule_first, d, hl, ?_⟩
    walk_at "f"
    exact k
theorem ok_Rule_last (S : En K mg) : FnOk P w K mg base (L2.CX P w) 1 S.f_Rule_last S.d_Rule_last ["self"] (lowF K (ctGet S.C_Rule "_last")) := by
  refine fn_low _ S.F_Rule_last sc_Rule_last (fun ss st ok ex h => ?_) ?_ (fun cdv A outer s H E hr tk po => (bone (sret (dfld K (dv 0)))))
  · (repeat (first | (obtain ⟨rfl, _⟩ := h; rfl) | (obtain ⟨_, h⟩ := h)))
  · rintro ss st ok ex ⟨fs, d, rfl, hl, k⟩
    walk_at "w"
    refine ⟨S.cl_Rule, S.na_Rule_last, d, hl, ?_⟩
    walk_at "f"
    exact k
theorem ok_Book_rule_of (S : En K mg) : FnOk P w K mg base (L2.CX P w) 3 S.f_Book_rule_of S.d_Book_rule_of ["self", "show", "episode"] (lowF K (ctRuleOf ⟨S.C_Book, S.C_Rule, S.C_Listing, S.C_Sending⟩)) := by
  refine fn_low _ S.F_Book_rule_of sc_Book_rule_of (fun ss st ok ex h => ?_) ?_ (fun cdv A outer s H E hr tk po => (bcons (sif (tsIn hr (dtup (acons (dv 1) (acons (dv 2) anil))) (dfld K (dv 0)))
   (bone (sret dn)) bnil)
  (bcons (sfor po (iT (dfld K (dv 0))) (gname 3 sc_Book_rule_of.nd)
   (bone (sif (tw (wand (tcmp op_eq lr_eqS (dprop S.cl_Rule S.p_Rule_show (ok_Rule_show S) (hr.mono (by decide)) S.b_Rule_show (dv 3)) (dv 1) (nomark _)) (wand1 (tchain op_le op_le lr_le lr_le (dprop S.cl_Rule S.p_Rule_first (ok_Rule_first S) (hr.mono (by decide)) S.b_Rule_first (dv 3)) (dv 2) (dprop S.cl_Rule S.p_Rule_last (ok_Rule_last S) (hr.mono (by decide)) S.b_Rule_last (dv 3))))))
   (bone (sret (dv 3))) bnil)))
  (bone (sret dn)))))
  · rw [ctRuleOf_eq] at h; obtain ⟨_, _, _, rfl, _⟩ := h; rfl
  · intro ss st ok ex h
    rw [ctRuleOf_eq] at h
    obtain ⟨b, s, e, rfl, hb, hs, k⟩ := h
    walk_at "zz"
    refine ⟨S.cl_Book, S.na_Book_seen, _, rfl, ?_⟩
    walk_at "w"
    refine ⟨epP (s, e), b.seen.map epP, ep_of (s, e), eps_of _, ep_shaped (s, e) hs, eps_lay _ hb.sok, ?_⟩
    rw [ep_any]
    unfold ruleOf at k
    refine ⟨fun h => ?_, fun h => ?_⟩
    · have h' := of_decide_eq_true h
      rw [if_pos h'] at k
      walk_at "f"
      exact k
    have h' := of_decide_eq_false h
    rw [if_neg h'] at k
    walk_at "w"
    refine ⟨S.cl_Book, S.na_Book_rules, _, rfl, ?_⟩
    walk_at "w"
    refine loop_find b.rules (Rul.d S.C_Rule) (fun r => decide (r.show_ = s) && (decide (r.first ≤ e) && decide (e ≤ r.last))) (fun Δ st' => Δ.length = 4 ∧ (Δ.take 3) = [.dat (b.d ⟨S.C_Book, S.C_Rule, S.C_Listing, S.C_Sending⟩), .dat (.str s), dI e] ∧ st' = st) (by simp) ⟨rfl, rfl, rfl⟩ ?_ ?_
    · rintro i r Δ' st' hi J
      obtain ⟨h1, h2, h3⟩ := J.r
      subst h3
      obtain ⟨v, rfl⟩ : ∃ v, Δ' = [.dat (b.d ⟨S.C_Book, S.C_Rule, S.C_Listing, S.C_Sending⟩), .dat (.str s), dI e, v] := by
        match Δ', h1, h2 with
        | [_, _, _, v], _, h2 => cases h2; exact ⟨v, rfl⟩
      walk_at "w"
      refine ⟨rfl, _, _, rfl, rfl, ?_⟩
      walk_at "w"
      refine ⟨fun e1 => ?_, fun e1 => ?_⟩
      · walk_at "w"
        refine ⟨rfl, _, _, rfl, rfl, ?_⟩
        walk_at "w"
        refine ⟨fun e2 => ?_, fun e2 => ?_⟩
        · walk_at "w"
          refine ⟨rfl, _, _, rfl, rfl, ?_⟩
          walk_at "w"
          refine ⟨fun e3 => ?_, fun e3 => ?_⟩
          · walk_at "f"
            have hp : (decide (r.show_ = s) && (decide (r.first ≤ e) && decide (e ≤ r.last))) = true := by
              rw [show decide (r.show_ = s) = true from e1, show decide (r.first ≤ e) = true from e2, show decide (e ≤ r.last) = true from e3]; rfl
            rw [fj_yes hi J hp] at k
            exact k
          · walk_at "w"
            refine fj_no hi J ?_ ⟨rfl, rfl, rfl⟩
            show (decide (r.show_ = s) && (decide (r.first ≤ e) && decide (e ≤ r.last))) = false
            rw [show decide (r.show_ = s) = true from e1, show decide (r.first ≤ e) = true from e2, show decide (e ≤ r.last) = false from e3]; rfl
        · walk_at "ss"
          refine fj_no hi J ?_ ⟨rfl, rfl, rfl⟩
          show (decide (r.show_ = s) && (decide (r.first ≤ e) && decide (e ≤ r.last))) = false
          rw [show decide (r.show_ = s) = true from e1, show decide (r.first ≤ e) = false from e2]; rfl
      · walk_at "ss"
        refine fj_no hi J ?_ ⟨rfl, rfl, rfl⟩
        show (decide (r.show_ = s) && (decide (r.first ≤ e) && decide (e ≤ r.last))) = false
        rw [show decide (r.show_ = s) = false from e1]; rfl
    · rintro Δ' st' ⟨h1, h2, h3⟩ hn
      subst h3
      rw [hn] at k
      walk_at "f"
      exact k
theorem ok_rule_for (S : En K mg) : FnOk P w K mg base (L2.CX P w) 4 S.f_rule_for S.d_rule_for ["book", "sending"] (lowF K (ctRuleFor ⟨S.C_Book, S.C_Rule, S.C_Listing, S.C_Sending⟩)) := by
  refine fn_low _ S.F_rule_for sc_rule_for (fun ss st ok ex h => ?_) ?_ (fun cdv A outer s H E hr tk po => (bone (sret (dmeth (dds := []) S.cl_Book S.m_Book_rule_of (ok_Book_rule_of S) (hr.mono (by decide)) S.b_Book_rule_of .nil (fun _ => .nil) tk (dv 0) (acons (dprop S.cl_Sending S.p_Sending_show (ok_Sending_show S) (hr.mono (by decide)) S.b_Sending_show (dv 1)) (acons (dprop S.cl_Sending S.p_Sending_episode (ok_Sending_episode S) (hr.mono (by decide)) S.b_Sending_episode (dv 1)) anil))))))
  · rw [ctRuleFor_eq] at h; obtain ⟨_, _, rfl, _⟩ := h; rfl
  · intro ss st ok ex h
    rw [ctRuleFor_eq] at h
    obtain ⟨b, x, rfl, hb, hx, k⟩ := h
    walk_at "w"
    refine ⟨rfl, rfl, rfl, _, _, rfl, rfl, ?_⟩
    walk_at "w"
    refine ⟨rfl, _, _, rfl, rfl, ?_⟩
    walk_at "w"
    rw [ctRuleOf_eq]
    refine ⟨b, _, _, rfl, hb, hx.sh, ?_⟩
    walk_at "f"
    exact k
theorem ok_Listing_names (S : En K mg) : FnOk P w K mg base (L2.CX P w) 1 S.f_Listing_names S.d_Listing_names ["self"] (lowF K (ctNames ⟨S.C_Book, S.C_Rule, S.C_Listing, S.C_Sending⟩)) := by
  refine fn_low _ S.F_Listing_names sc_Listing_names (fun ss st ok ex h => ?_) ?_ (fun cdv A outer s H E hr tk po => (bone (sret (dct (call_tupleK rfl) lc_tupK S.n_tuple PyProof.Rows.boot_tuple (acons (dfld K (dv 0)) anil)))))
  · rw [ctNames_eq] at h; obtain ⟨_, rfl, _⟩ := h; rfl
  · intro ss st ok ex h
    rw [ctNames_eq] at h
    obtain ⟨l, rfl, k⟩ := h
    walk_at "w"
    refine ⟨S.cl_Listing, S.na_Listing_sendings, _, rfl, ?_⟩
    walk_at "f"
    rw [List.map_map, List.map_map]
    exact k
theorem ok_wished_names (S : En K mg) : FnOk P w K mg base (L2.CX P w) 5 S.f_wished_names S.d_wished_names ["book", "listing"] (lowF K (ctWNames ⟨S.C_Book, S.C_Rule, S.C_Listing, S.C_Sending⟩)) := by
  refine fn_low _ S.F_wished_names sc_wished_names (fun ss st ok ex h => ?_) ?_ (fun cdv A outer s H E hr tk po => (bone (sret (dlc [("name", 2)] sc_wished_names.nd (iT (dprop S.cl_Listing S.p_Listing_names (ok_Listing_names S) (hr.mono (by decide)) S.b_Listing_names (dv 1))) (blkOk_by (N := ["book", "listing", "name"]) (sc := defScope s_wished_names) (by decide +kernel)) (fun _ _ _ _ _ => (gwname 2 sc_wished_names.nd)) (fun _ _ _ _ _ => (tsone (tnotN (dcall (dds := []) (ok_rule_for S) (hr.mono (by decide)) S.g_rule_for S.F_rule_for.kp S.b_rule_for .nil (fun _ => .nil) takes0 (acons (dv 0) (acons (dget S.sg_Listing_getitem S.fi_Listing_getitem S.fn_Listing_getitem (ok_Listing_getitem S) (hr.mono (by decide)) S.b_Listing_getitem takes0 (dv 1) (dv 2)) anil)))))) (fun _ _ _ _ _ => (dv 2))))))
  · exact bl_len (m := 0) (fun _ => rfl) h
  · intro ss st ok ex h
    unfold ctWNames at h
    rw [ctBL_eq] at h
    obtain ⟨b, l, a, rfl, hb, hl, -, k⟩ := h
    walk_at "w"
    refine ⟨rfl, ?_⟩
    rw [ctNames_eq]
    refine ⟨l, rfl, ?_⟩
    walk_at "w"
    refine lc_pure l (fun x => .str x.1) (fun x => (ruleFor b x.2).map fun _ => .str x.1) (by rw [List.map_map]; rfl) ?_ ?_
    · intro i x D acc hx hD J
      have hm := List.mem_of_getElem? hx
      walk_at "w"
      refine ⟨rfl, ?_⟩
      rw [ctItem_eq]
      refine ⟨l, x.1, x.2, rfl, hl.get hm, ?_⟩
      walk_at "w"
      rw [ctRuleFor_eq]
      refine ⟨b, x.2, rfl, hb, (hl.ok _ hm).2, ?_⟩
      cases hr : ruleFor b x.2 with
      | none =>
        walk_at "ss"
        exact lc_no hx J (by rw [hr]; rfl)
      | some r =>
        walk_at "ss"
        exact lc_yes (Nat.le_trans hl.len (by decide)) hx J (by rw [hr]; rfl)
    · walk_at "f"
      rw [wnames_is]
      exact k
theorem ok_Rule_before (S : En K mg) : FnOk P w K mg base (L2.CX P w) 1 S.f_Rule_before S.d_Rule_before ["self"] (lowF K (ctGet S.C_Rule "_before")) := by
  refine fn_low _ S.F_Rule_before sc_Rule_before (fun ss st ok ex h => ?_) ?_ (fun cdv A outer s H E hr tk po => (bone (sret (dfld K (dv 0)))))
  · (repeat (first | (obtain ⟨rfl, _⟩ := h; rfl) | (obtain ⟨_, h⟩ := h)))
  · rintro ss st ok ex ⟨fs, d, rfl, hl, k⟩
    walk_at "w"
    refine ⟨S.cl_Rule, S.na_Rule_before, d, hl, ?_⟩
    walk_at "f"
    exact k
theorem ok_Rule_after (S : En K mg) : FnOk P w K mg base (L2.CX P w) 1 S.f_Rule_after S.d_Rule_after ["self"] (lowF K (ctGet S.C_Rule "_after")) := by
  refine fn_low _ S.F_Rule_after sc_Rule_after (fun ss st ok ex h => ?_) ?_ (fun cdv A outer s H E hr tk po => (bone (sret (dfld K (dv 0)))))
  · (repeat (first | (obtain ⟨rfl, _⟩ := h; rfl) | (obtain ⟨_, h⟩ := h)))
  · rintro ss st ok ex ⟨fs, d, rfl, hl, k⟩
    walk_at "w"
    refine ⟨S.cl_Rule, S.na_Rule_after, d, hl, ?_⟩
    walk_at "f"
    exact k
theorem ok_Sending_begin (S : En K mg) : FnOk P w K mg base (L2.CX P w) 1 S.f_Sending_begin S.d_Sending_begin ["self"] (lowF K (ctGet S.C_Sending "_begin")) := by
  refine fn_low _ S.F_Sending_begin sc_Sending_begin (fun ss st ok ex h => ?_) ?_ (fun cdv A outer s H E hr tk po => (bone (sret (dfld K (dv 0)))))
  · (repeat (first | (obtain ⟨rfl, _⟩ := h; rfl) | (obtain ⟨_, h⟩ := h)))
  · rintro ss st ok ex ⟨fs, d, rfl, hl, k⟩
    walk_at "w"
    refine ⟨S.cl_Sending, S.na_Sending_begin, d, hl, ?_⟩
    walk_at "f"
    exact k
theorem ok_Sending_end (S : En K mg) : FnOk P w K mg base (L2.CX P w) 1 S.f_Sending_end S.d_Sending_end ["self"] (lowF K (ctGet S.C_Sending "_end")) := by
  refine fn_low _ S.F_Sending_end sc_Sending_end (fun ss st ok ex h => ?_) ?_ (fun cdv A outer s H E hr tk po => (bone (sret (dfld K (dv 0)))))
  · (repeat (first | (obtain ⟨rfl, _⟩ := h; rfl) | (obtain ⟨_, h⟩ := h)))
  · rintro ss st ok ex ⟨fs, d, rfl, hl, k⟩
    walk_at "w"
    refine ⟨S.cl_Sending, S.na_Sending_end, d, hl, ?_⟩
    walk_at "f"
    exact k
theorem ok_window (S : En K mg) : FnOk P w K mg base (L2.CX P w) 5 S.f_window S.d_window ["book", "listing", "name"] (lowF K (ctWindow ⟨S.C_Book, S.C_Rule, S.C_Listing, S.C_Sending⟩)) := by
  refine fn_low _ S.F_window sc_window (fun ss st ok ex h => ?_) ?_ (fun cdv A outer s H E hr tk po => (bcons (sset 3 sc_window.nd (dget S.sg_Listing_getitem S.fi_Listing_getitem S.fn_Listing_getitem (ok_Listing_getitem S) (hr.mono (by decide)) S.b_Listing_getitem tk (dv 1) (dv 2)))
  (bcons (sset 4 sc_window.nd (dcall (dds := []) (ok_rule_for S) (hr.mono (by decide)) S.g_rule_for S.F_rule_for.kp S.b_rule_for .nil (fun _ => .nil) tk (acons (dv 0) (acons (dv 3) anil))))
  (bcons (sif (tisN (dv 4))
   (bone (sraise0 PySem.F.excBase_ValueError S.x_NotWished S.g_NotWished S.kc_NotWished (raises_own S.r_NotWished S.ty_NotWished) tk)) bnil)
  (bone (sret (dtup (acons (dcb (call_max2 rfl) lc_max2 S.n_max PyProof.Rows.boot_max (acons di (acons (dop op_sub lr_sub (dprop S.cl_Sending S.p_Sending_begin (ok_Sending_begin S) (hr.mono (by decide)) S.b_Sending_begin (dv 3)) (dprop S.cl_Rule S.p_Rule_before (ok_Rule_before S) (hr.mono (by decide)) S.b_Rule_before (dv 4))) anil))) (acons (dop op_add lr_add (dprop S.cl_Sending S.p_Sending_end (ok_Sending_end S) (hr.mono (by decide)) S.b_Sending_end (dv 3)) (dprop S.cl_Rule S.p_Rule_after (ok_Rule_after S) (hr.mono (by decide)) S.b_Rule_after (dv 4))) anil)))))))))
  · exact bl_len (m := 1) (fun _ => rfl) h
  · intro ss st ok ex h
    unfold ctWindow at h
    rw [ctBL_eq] at h
    obtain ⟨b, l, x, rfl, hb, hl, hx, k⟩ := h
    obtain ⟨hx1, hx2⟩ := wished_mem.mp hx
    walk_at "w"
    refine ⟨rfl, ?_⟩
    rw [ctItem_eq]
    refine ⟨l, x.n, x.s, rfl, hl.get hx1, ?_⟩
    walk_at "w"
    rw [ctRuleFor_eq]
    refine ⟨b, x.s, rfl, hb, (hl.ok _ hx1).2, ?_⟩
    rw [hx2]
    walk_at "dd"
    walk_at "w"
    refine ⟨rfl, _, _, rfl, rfl, ?_⟩
    walk_at "w"
    refine ⟨rfl, _, _, rfl, rfl, ?_⟩
    walk_at "w"
    refine ⟨rfl, _, _, rfl, rfl, ?_⟩
    walk_at "w"
    refine ⟨rfl, _, _, rfl, rfl, ?_⟩
    walk_at "zz"
    walk_at "f"
    exact k
theorem ok_wished_windows (S : En K mg) : FnOk P w K mg base (L2.CX P w) 6 S.f_wished_windows S.d_wished_windows ["book", "listing"] (lowF K (ctWindows ⟨S.C_Book, S.C_Rule, S.C_Listing, S.C_Sending⟩)) := by
  refine fn_low _ S.F_wished_windows sc_wished_windows (fun ss st ok ex h => ?_) ?_ (fun cdv A outer s H E hr tk po => (bone (sret (ddc [("name", 2)] sc_wished_windows.nd (iL (dcall (dds := []) (ok_wished_names S) (hr.mono (by decide)) S.g_wished_names S.F_wished_names.kp S.b_wished_names .nil (fun _ => .nil) tk (acons (dv 0) (acons (dv 1) anil)))) (blkOk_by (N := ["book", "listing", "name"]) (sc := defScope s_wished_windows) (by decide +kernel)) (fun _ _ _ _ _ => (gwname 2 sc_wished_windows.nd)) (fun _ _ _ _ _ => tsnil) (fun _ _ _ _ _ => (dv 2)) (fun _ _ _ _ _ => (dcall (dds := []) (ok_window S) (hr.mono (by decide)) S.g_window S.F_window.kp S.b_window .nil (fun _ => .nil) takes0 (acons (dv 0) (acons (dv 1) (acons (dv 2) anil)))))))))
  · exact bl_len (m := 0) (fun _ => rfl) h
  · intro ss st ok ex h
    unfold ctWindows at h
    rw [ctBL_eq] at h
    obtain ⟨b, l, a, rfl, hb, hl, -, k⟩ := h
    walk_at "w"
    refine bl_at () rfl hb hl trivial ?_
    walk_at "w"
    refine dc_pure (wished b l) (fun x => .str x.n) (fun x => some (.inr x.n, winD x.win)) (by rw [List.map_map]; exact (List.map_map ..)) ?_ ?_
    · intro i x D acc hx hD J
      have hm := List.mem_of_getElem? hx
      walk_at "ss"
      refine bl_at x rfl hb hl hm ?_
      exact dc_yes (Nat.le_trans (wished_len hl) (by decide)) (windows_nd hl) hx J rfl rfl
    · walk_at "f"
      rw [windows_is]
      exact k
theorem ok_no_episode_twice (S : En K mg) : FnOk P w K mg base (L2.CX P w) 4 S.f_no_episode_twice S.d_no_episode_twice ["listing", "names"] (lowF K (ctApartN ⟨S.C_Book, S.C_Rule, S.C_Listing, S.C_Sending⟩)) := by
  refine fn_low _ S.F_no_episode_twice sc_no_episode_twice (fun ss st ok ex h => ?_) ?_ (fun cdv A outer s H E hr tk po => (bone (sret (dcmp op_eq lr_eqS (dlsc hr S.n_len [("name", 2)] sc_no_episode_twice.nd (iT (dv 1)) (blkOk_by (N := ["listing", "names", "name"]) (sc := defScope s_no_episode_twice) (by decide +kernel)) (fun _ _ _ _ _ => (gwname 2 sc_no_episode_twice.nd)) (fun _ _ _ _ _ => tsnil) (fun _ _ _ _ _ => (dcall (dds := []) (ok_episode_of S) (hr.mono (by decide)) S.g_episode_of S.F_episode_of.kp S.b_episode_of .nil (fun _ => .nil) takes0 (acons (dget S.sg_Listing_getitem S.fi_Listing_getitem S.fn_Listing_getitem (ok_Listing_getitem S) (hr.mono (by decide)) S.b_Listing_getitem takes0 (dv 0) (dv 2)) anil)))) (dcb call_len_seq lc_lenT S.n_len PySem.boot_len (acons (dv 1) anil)) (nomark _)))))
  · rw [ctApartN_eq] at h; obtain ⟨_, _, rfl, _⟩ := h; rfl
  · intro ss st ok ex h
    rw [ctApartN_eq] at h
    obtain ⟨l, t, rfl, hl, h10, hin, k⟩ := h
    walk_at "w"
    refine len_pure t .str (fun n => epKey (epAt l n)) (by rw [List.map_map]; rfl) (by omega) ?_ ?_
    · intro i n acc hx J
      obtain ⟨s, hs⟩ := hin n (List.mem_of_getElem? hx)
      walk_at "ss"
      refine ⟨rfl, ?_⟩
      rw [ctItem_eq]
      refine ⟨l, n, s, rfl, hl.get hs, ?_⟩
      walk_at "w"
      refine ⟨s, rfl, ?_⟩
      exact len_yes hx J (by unfold epAt; rw [hl.get hs]; rfl)
    · intro L nd hm
      walk_at "f"
      rw [List.length_map, List.length_map, apartN_len nd hm]
      exact k
theorem ok_subsets (S : En K mg) : FnOk P w K mg base (L2.CX P w) 1 S.f_subsets S.d_subsets ["items", "most"] (lowF K ctSubs) := by
  refine fn_low _ S.F_subsets sc_subsets (fun ss st ok ex h => ?_) ?_ (fun cdv A outer s H E hr tk po => (bcons (sset 2 sc_subsets.nd (dlst (acons (dtup anil) anil)))
  (bcons (sset 3 sc_subsets.nd (dlst (acons (dtup anil) anil)))
  (bcons (sfor po (iR S.n_range (acons (dv 1) anil)) (gname 4 sc_subsets.nd)
   (bcons (ssetLc2 2 [("taken", 5), ("item", 6)] [6] sc_subsets.nd (iL (dv 2)) (blkOk_by (N := ["items", "most", "longest", "found", "_", "taken", "item"]) (sc := defScope s_subsets) (by decide +kernel)) (fun _ _ _ _ _ => (gwname 5 sc_subsets.nd)) (fun _ _ _ _ _ => tsnil) (fun _ _ _ _ _ => (iL (dv 0))) (fun _ _ _ _ _ => (gwname 6 sc_subsets.nd)) (fun _ _ _ _ _ => (tsone (tw (wor (tnot (ttruT (dv 5))) (wor1 (tcmp op_lt_str lr_ltStr (dix ix_tup lr_ixT (dv 5) (dneg di)) (dv 6) (nomark _))))))) (fun _ _ _ _ _ => (dtup (astar (dv 5) (acons (dv 6) anil)))))
  (bone (sset 3 sc_subsets.nd (dop op_cat lr_cat (dv 3) (dv 2))))))
  (bone (sret (dv 3)))))))
  · (repeat (first | (obtain ⟨rfl, _⟩ := h; rfl) | (obtain ⟨_, h⟩ := h)))
  · rintro ss st ok ex ⟨ns, n, rfl, ha, hns, hn, k⟩
    walk_at "zz"
    refine ⟨by omega, by omega, ?_⟩
    walk_at "w"
    refine loop_fold (List.range n) (fun i => .int (0 + (i : Int))) (fun (m : Nat) _ => m + 1) 0 (fun m Δ' st' => ∃ v4 v5 v6, Δ' = [.dat (namesD ns), dI (n : Int), .dat (.lst ((lvU strLt ns m).map nsD)), .dat (.lst ((subsN ns m).map nsD)), v4, v5, v6] ∧ st' = st) (by unfold rngS; simp) ⟨.un, .un, .un, rfl, rfl⟩ ?_ ?_
    · rintro pre kk post m Δ' st' has hm ⟨v4, v5, v6, rfl, rfl⟩
      have hm7 : m + 1 ≤ 10 := by
        rw [count_fold] at hm
        have := congrArg List.length has
        rw [List.length_range, List.length_append, List.length_cons] at this
        omega
      have hsz := lv_few ha hns (m + 1)
      walk_at "w"
      refine lc2_pure (lvU strLt ns m) nsD (fun _ => ns) (fun t i => (growF strLt t i).map nsD) (by rw [List.map_map]; rfl) ?_ ?_
      · intro i t D acc ht hD J
        walk_at "ss"
        refine lc2_in .str ht hD J (by rw [List.map_map]; rfl) ?_
        intro j y acc1 hy J1
        have hlen := j2_len ht J1
        rw [lv_next, List.length_map] at hlen
        walk_at "w"
        refine ⟨fun h => ?_, fun h => ?_⟩
        · have ht0 : t = [] := by
            cases t with
            | nil => rfl
            | cons a t => cases h
          subst ht0
          walk_at "ss"
          refine ⟨by rw [sizeLine_eq]; show 1 ≤ _; omega, ?_⟩
          walk_at "w"
          refine l2_yes hy J1 ?_ (by rw [sizeLine_eq]; omega)
          rw [grow_yes (lt := strLt) (fun z hz => by cases hz)]
          rfl
        · rcases List.eq_nil_or_concat t with rfl | ⟨s, z, rfl⟩
          · cases h
          · rw [List.concat_eq_append] at *
            refine ⟨.dat (.str z), by rw [List.map_append, List.map_append]; exact atI_end _ _, ?_⟩
            have htl : (s ++ [z]).length ≤ 10 := by
              rw [((lv_mem str_ord ns m _).mp (List.mem_of_getElem? ht)).1]
              omega
            have hlast : (s ++ [z]).getLast? = some z := by simp
            walk_at "w"
            refine ⟨fun h2 => ?_, fun h2 => ?_⟩
            · have hg : growF strLt (s ++ [z]) y = some (s ++ [z] ++ [y]) := grow_yes fun w hw => by
                rw [hlast] at hw
                cases hw
                exact h2
              walk_at "w"
              refine ⟨by rw [List.length_append, List.length_map, List.length_map, sizeLine_eq]; show _ + 1 ≤ _; omega, ?_⟩
              walk_at "w"
              refine all_at (ds := (s ++ [z] ++ [y]).map .str) ?_ ?_
              · show allD? (((s ++ [z]).map Dt.str).map Sv.dat ++ [Dt.str y].map Sv.dat) = _
                rw [← List.map_append, allD_map, List.map_append (l₁ := s ++ [z])]
                rfl
              · exact l2_yes (d := nsD (s ++ [z] ++ [y])) hy J1 (by rw [hg]; rfl) (by rw [sizeLine_eq]; omega)
            · walk_at "w"
              refine l2_no hy J1 ?_
              unfold growF
              rw [last_ok hlast, show strLt z y = false from h2]
              cases s <;> rfl
      · rw [lv_next]
        have h1 := subs_few ha hns m
        walk_at "w"
        refine ⟨by simp only [List.length_map, sizeLine_eq]; omega, (subsN ns (m + 1)).map nsD, ?_, ?_⟩
        · rw [← List.map_append, ← List.map_append]
          exact .map _
        · walk_at "w"
          exact ⟨_, _, _, rfl, rfl⟩
    · rintro Δ' st' ⟨v4, v5, v6, rfl, rfl⟩
      rw [count_fold, List.length_range]
      walk_at "f"
      rw [Nat.zero_add]
      exact k
theorem ok_open_at (S : En K mg) : FnOk P w K mg base (L2.CX P w) 1 S.f_open_at S.d_open_at ["windows", "names", "minute"] (lowF K ctOpenW) := by
  refine fn_low _ S.F_open_at sc_open_at (fun ss st ok ex h => ?_) ?_ (fun cdv A outer s H E hr tk po => (bone (sret (deither (dlc [("name", 3)] sc_open_at.nd (iT (dv 1)) (blkOk_by (N := ["windows", "names", "minute", "name"]) (sc := defScope s_open_at) (by decide +kernel)) (fun _ _ _ _ _ => (gwname 3 sc_open_at.nd)) (fun _ _ _ _ _ => (tsone (tchain op_le op_lt lr_le lr_lt (dix ix_tup lr_ixT (ddget (hu1 hr) (dv 0) (dv 3)) di) (dv 2) (dix ix_tup lr_ixT (ddget (hu1 hr) (dv 0) (dv 3)) di)))) (fun _ _ _ _ _ => (dv 3))) (dlcK [("name", 3)] sc_open_at.nd (dv 1) (blkOk_by (N := ["windows", "names", "minute", "name"]) (sc := defScope s_open_at) (by decide +kernel)) (fun _ _ _ _ _ => (gwname 3 sc_open_at.nd)) (fun _ _ _ _ _ => (tsone (tchain op_le op_lt lr_le lr_lt (dix ix_tup lr_ixT (ddget (hu1 hr) (dv 0) (dv 3)) di) (dv 2) (dix ix_tup lr_ixT (ddget (hu1 hr) (dv 0) (dv 3)) di)))) (fun _ _ _ _ _ => (dv 3)))))))
  · rcases h with h | ⟨_, _, rfl, _⟩; rw [ctOpen_eq] at h; obtain ⟨_, _, _, rfl, _⟩ := h; rfl; rfl
  · intro ss st ok ex h
    rcases h with h | ⟨ws, m, rfl, h10, nd, k⟩
    · rw [ctOpen_eq] at h
      obtain ⟨ws, ns, m, rfl, hin, k⟩ := h
      have h10 := hin.len
      walk_at "w"
      refine Or.inl ?_
      walk_at "w"
      refine lc_pure ns .str (fun n => if (decide ((winOf ws n).1 ≤ m) && decide (m < (winOf ws n).2)) = true then some (.str n) else none) (by rw [List.map_map]; rfl) ?_ ?_
      · intro i n D acc hx hD J
        obtain ⟨w, hw⟩ := hin.mem n (List.mem_of_getElem? hx)
        have hwo : winOf ws n = w := by unfold winOf; rw [hw]; rfl
        walk_at "w"
        refine ⟨.inr n, .dat (winD w), rfl, by rw [getD_dic winD ws n, hw]; rfl, ?_⟩
        walk_at "w"
        refine ⟨_, rfl, ?_⟩
        walk_at "w"
        refine ⟨fun h1 => ?_, fun h1 => ?_⟩
        · have h1 : decide (w.1 ≤ m) = true := h1
          walk_at "w"
          refine ⟨.inr n, .dat (winD w), rfl, by rw [getD_dic winD ws n, hw]; rfl, ?_⟩
          walk_at "w"
          refine ⟨_, rfl, ?_⟩
          walk_at "w"
          refine ⟨fun h2 => ?_, fun h2 => ?_⟩
          · have h2 : decide (m < w.2) = true := h2
            walk_at "w"
            exact lc_yes (by rw [sizeLine_eq]; omega) hx J (by rw [hwo, h1, h2]; rfl)
          · have h2 : decide (m < w.2) = false := h2
            walk_at "w"
            exact lc_no hx J (by rw [hwo, h1, h2]; rfl)
        · have h1 : decide (w.1 ≤ m) = false := h1
          walk_at "ss"
          exact lc_no hx J (by rw [hwo, h1]; rfl)
      · rw [fm_if]
        walk_at "f"
        exact k
    · walk_at "w"
      refine Or.inr ?_
      walk_at "w"
      refine lc_pure ws (fun x => .str x.1) (fun x => if (decide ((winOf ws x.1).1 ≤ m) && decide (m < (winOf ws x.1).2)) = true then some (.str x.1) else none) (by unfold keysD; rw [List.map_map]; rfl) ?_ ?_
      · intro i x D acc hx hD J
        have hxm := List.mem_of_getElem? hx
        have hwo := winOf_mem nd hxm
        have hlk := look_mem nd hxm
        walk_at "w"
        refine ⟨.inr x.1, .dat (winD x.2), rfl, by rw [getD_dic winD ws x.1, hlk]; rfl, ?_⟩
        walk_at "w"
        refine ⟨_, rfl, ?_⟩
        walk_at "w"
        refine ⟨fun h1 => ?_, fun h1 => ?_⟩
        · have h1 : decide (x.2.1 ≤ m) = true := h1
          walk_at "w"
          refine ⟨.inr x.1, .dat (winD x.2), rfl, by rw [getD_dic winD ws x.1, hlk]; rfl, ?_⟩
          walk_at "w"
          refine ⟨_, rfl, ?_⟩
          walk_at "w"
          refine ⟨fun h2 => ?_, fun h2 => ?_⟩
          · have h2 : decide (m < x.2.2) = true := h2
            walk_at "w"
            exact lc_yes (by rw [sizeLine_eq]; omega) hx J (by rw [hwo, h1, h2]; rfl)
          · have h2 : decide (m < x.2.2) = false := h2
            walk_at "w"
            exact lc_no hx J (by rw [hwo, h1, h2]; rfl)
        · have h1 : decide (x.2.1 ≤ m) = false := h1
          walk_at "ss"
          exact lc_no hx J (by rw [hwo, h1]; rfl)
      · rw [fm_if (fun x : Str × Win => decide ((winOf ws x.1).1 ≤ m) && decide (m < (winOf ws x.1).2))]
        walk_at "f"
        have e : ((ws.filter fun x => decide ((winOf ws x.1).1 ≤ m) && decide (m < (winOf ws x.1).2)).map fun x => Dt.str x.1) = (openAt ws (ws.map (·.1)) m).map Dt.str := by
          unfold openAt
          rw [List.filter_map, List.map_map]
          rfl
        rw [e]
        exact k
theorem ok_most_at_once (S : En K mg) : FnOk P w K mg base (L2.CX P w) 2 S.f_most_at_once S.d_most_at_once ["windows", "names"] (lowF K ctMost) := by
  refine fn_low _ S.F_most_at_once sc_most_at_once (fun ss st ok ex h => ?_) ?_ (fun cdv A outer s H E hr tk po => (bone (sret (dmaxOr hr S.n_max (dlc [("name", 2)] sc_most_at_once.nd (iT (dv 1)) (blkOk_by (N := ["windows", "names", "name"]) (sc := defScope s_most_at_once) (by decide +kernel)) (fun _ _ _ _ _ => (gwname 2 sc_most_at_once.nd)) (fun _ _ _ _ _ => tsnil) (fun _ _ _ _ _ => (dcb call_len_seq lc_lenL S.n_len PySem.boot_len (acons (dcall (dds := []) (ok_open_at S) (hr.mono (by decide)) S.g_open_at S.F_open_at.kp S.b_open_at .nil (fun _ => .nil) takes0 (acons (dv 0) (acons (dv 1) (acons (dix ix_tup lr_ixT (ddget (hu1 hr) (dv 0) (dv 2)) di) anil)))) anil)))) di))))
  · rw [ctMost_eq] at h; obtain ⟨_, _, rfl, _⟩ := h; rfl
  · intro ss st ok ex h
    rw [ctMost_eq] at h
    obtain ⟨ws, ns, rfl, hin, k⟩ := h
    have h10 := hin.len
    walk_at "w"
    refine lc_pure ns .str (fun n => some (.int ((openAt ws ns (winOf ws n).1).length : Int))) (by rw [List.map_map]; rfl) ?_ ?_
    · intro i n D acc hx hD J
      obtain ⟨w, hw⟩ := hin.mem n (List.mem_of_getElem? hx)
      have hwo : winOf ws n = w := by unfold winOf; rw [hw]; rfl
      walk_at "ss"
      refine ⟨.inr n, .dat (winD w), rfl, by rw [getD_dic winD ws n, hw]; rfl, ?_⟩
      walk_at "dd"
      walk_at "w"
      refine Or.inl ?_
      rw [ctOpen_eq]
      refine ⟨ws, ns, w.1, rfl, hin, ?_⟩
      walk_at "w"
      exact lc_yes (by rw [sizeLine_eq]; omega) hx J (by rw [hwo, List.length_map, List.length_map])
    · rw [fm_some]
      walk_at "w"
      refine ⟨ns.map fun n => ((openAt ws ns (winOf ws n).1).length : Int), by rw [List.map_map, List.map_map]; rfl, ?_⟩
      walk_at "f"
      exact k
theorem ok_without_doubles (S : En K mg) : FnOk P w K mg base (L2.CX P w) 5 S.f_without_doubles S.d_without_doubles ["listing", "names"] (lowF K (ctSingles ⟨S.C_Book, S.C_Rule, S.C_Listing, S.C_Sending⟩)) := by
  refine fn_low _ S.F_without_doubles sc_without_doubles (fun ss st ok ex h => ?_) ?_ (fun cdv A outer s H E hr tk po => (bone (sret (dlc [("chosen", 2)] sc_without_doubles.nd (iL (dcall (dds := []) (ok_subsets S) (hr.mono (by decide)) S.g_subsets S.F_subsets.kp S.b_subsets .nil (fun _ => .nil) tk (acons (dv 1) (acons (dcb call_len_seq lc_lenL S.n_len PySem.boot_len (acons (dv 1) anil)) anil)))) (blkOk_by (N := ["listing", "names", "chosen"]) (sc := defScope s_without_doubles) (by decide +kernel)) (fun _ _ _ _ _ => (gwname 2 sc_without_doubles.nd)) (fun _ _ _ _ _ => (tsone (tval (dcall (dds := []) (ok_no_episode_twice S) (hr.mono (by decide)) S.g_no_episode_twice S.F_no_episode_twice.kp S.b_no_episode_twice .nil (fun _ => .nil) takes0 (acons (dv 0) (acons (dv 2) anil)))))) (fun _ _ _ _ _ => (dv 2))))))
  · rw [ctSingles_eq] at h; obtain ⟨_, _, rfl, _⟩ := h; rfl
  · intro ss st ok ex h
    rw [ctSingles_eq] at h
    obtain ⟨l, ns, rfl, hl, ha, hin, k⟩ := h
    have h10 := asc_ten hl ha hin
    have hsub : ∀ t ∈ subsN ns ns.length, t.length ≤ 10 ∧ ∀ n ∈ t, ∃ s, (n, s) ∈ l := fun t ht => by
      obtain ⟨h1, h2, h3⟩ := (subs_mem str_ord ns _ t).mp ht
      exact ⟨Nat.le_trans h1 h10, fun n hn => hin n (h3 n hn)⟩
    have hfew := subs_few ha h10 ns.length
    walk_at "w"
    refine ⟨ns, ns.length, by simp only [List.length_map]; rfl, ha, h10, h10, ?_⟩
    walk_at "w"
    refine lc_pure (subsN ns ns.length) nsD (fun t => if apartN l t = true then some (nsD t) else none) (by rw [List.map_map]; rfl) ?_ ?_
    · intro i t D acc hx hD J
      obtain ⟨h1, h2⟩ := hsub t (List.mem_of_getElem? hx)
      walk_at "w"
      rw [ctApartN_eq]
      refine ⟨l, t, rfl, hl, h1, h2, ?_⟩
      walk_at "w"
      refine ⟨fun h => ?_, fun h => ?_⟩
      · walk_at "w"
        exact lc_yes (by rw [sizeLine_eq]; omega) hx J (if_pos h)
      · walk_at "w"
        exact lc_no hx J (if_neg (by rw [h]; decide))
    · rw [fm_if]
      walk_at "f"
      exact k
theorem ok_choices_among (S : En K mg) : FnOk P w K mg base (L2.CX P w) 6 S.f_choices_among S.d_choices_among ["listing", "windows", "receivers"] (lowF K (ctAmongC ⟨S.C_Book, S.C_Rule, S.C_Listing, S.C_Sending⟩)) := by
  refine fn_low _ S.F_choices_among sc_choices_among (fun ss st ok ex h => ?_) ?_ (fun cdv A outer s H E hr tk po => (bcons (sset 3 sc_choices_among.nd (dcall (dds := []) (ok_without_doubles S) (hr.mono (by decide)) S.g_without_doubles S.F_without_doubles.kp S.b_without_doubles .nil (fun _ => .nil) tk (acons (dv 0) (acons (dcb (call_sortedD rfl) lc_sortK S.n_sorted PyProof.Rows.boot_sorted (acons (dv 1) anil)) anil))))
  (bone (sret (dlc [("chosen", 4)] sc_choices_among.nd (iL (dv 3)) (blkOk_by (N := ["listing", "windows", "receivers", "tried", "chosen"]) (sc := defScope s_choices_among) (by decide +kernel)) (fun _ _ _ _ _ => (gwname 4 sc_choices_among.nd)) (fun _ _ _ _ _ => (tsone (tcmp op_le lr_le (dcall (dds := []) (ok_most_at_once S) (hr.mono (by decide)) S.g_most_at_once S.F_most_at_once.kp S.b_most_at_once .nil (fun _ => .nil) takes0 (acons (dv 1) (acons (dv 4) anil))) (dv 2) (nomark _)))) (fun _ _ _ _ _ => (dv 4)))))))
  · obtain ⟨_, _, _, rfl, _⟩ := h; rfl
  · rintro ss st ok ex ⟨b, l, k0, rfl, hb, hl, k⟩
    have hin : ∀ n ∈ wn b l, ∃ s, (n, s) ∈ l := fun n hn => by
      obtain ⟨w, hw, rfl⟩ := List.mem_map.mp hn
      exact ⟨w.s, (wished_mem.mp hw).1⟩
    have h10 := asc_ten hl (wn_asc (b := b) hl) hin
    have hfew := subs_few (wn_asc (b := b) hl) h10 (wn b l).length
    have hs : (singles l (wn b l)).length ≤ 1024 := Nat.le_trans (List.length_filter_le _ _) hfew
    walk_at "w"
    refine ⟨wn b l, by rw [← win_names, List.map_map, List.map_map, List.map_map]; rfl, by omega, fun ys hy hs => ?_⟩
    obtain rfl := sorted_is hy hs
    rw [show sortN (wn b l) = wn b l from sortN_same ((wn_asc (b := b) hl).imp fun {a c} h => of_decide_eq_true h)]
    walk_at "w"
    rw [ctSingles_eq]
    refine ⟨l, wn b l, rfl, hl, wn_asc hl, hin, ?_⟩
    walk_at "w"
    refine lc_pure (singles l (wn b l)) nsD (fun t => if decide (mostAt (windows b l) t ≤ (k0 : Int)) = true then some (nsD t) else none) (by rw [List.map_map]; rfl) ?_ ?_
    · intro i t D acc hx hD J
      have ht := (List.mem_filter.mp (List.mem_of_getElem? hx)).1
      obtain ⟨h1, h2, h3⟩ := (subs_mem str_ord (wn b l) _ t).mp ht
      walk_at "w"
      rw [ctMost_eq]
      refine ⟨windows b l, t, rfl, ⟨by omega, fun n hn => ?_⟩, ?_⟩
      · have := h3 n hn
        rw [← win_names] at this
        exact look_is this
      walk_at "w"
      refine ⟨fun h => ?_, fun h => ?_⟩
      · walk_at "w"
        exact lc_yes (by rw [sizeLine_eq]; omega) hx J (if_pos h)
      · walk_at "w"
        exact lc_no hx J (if_neg (by rw [show decide (mostAt (windows b l) t ≤ (k0 : Int)) = false from h]; decide))
    · rw [fm_if]
      walk_at "f"
      exact k
theorem ok_all_choices (S : En K mg) : FnOk P w K mg base (L2.CX P w) 7 S.f_all_choices S.d_all_choices ["book", "listing", "receivers"] (lowF K (ctChoicesX ⟨S.C_Book, S.C_Rule, S.C_Listing, S.C_Sending⟩ S.C_InvalidNumber)) := by
  refine fn_low _ S.F_all_choices sc_all_choices (fun ss st ok ex h => ?_) ?_ (fun cdv A outer s H E hr tk po => (bcons (sdrop (dcall (dds := []) (ok_check_receivers S) (hr.mono (by decide)) S.g_check_receivers S.F_check_receivers.kp S.b_check_receivers .nil (fun _ => .nil) tk (acons (dv 2) anil)))
  (bone (sret (dcall (dds := []) (ok_choices_among S) (hr.mono (by decide)) S.g_choices_among S.F_choices_among.kp S.b_choices_among .nil (fun _ => .nil) tk (acons (dv 1) (acons (dcall (dds := []) (ok_wished_windows S) (hr.mono (by decide)) S.g_wished_windows S.F_wished_windows.kp S.b_wished_windows .nil (fun _ => .nil) tk (acons (dv 0) (acons (dv 1) anil))) (acons (dv 2) anil))))))))
  · rcases h with h | ⟨_, _, _, rfl, _⟩; exact bl_len (m := 1) (fun _ => rfl) h; rfl
  · rintro ss st ok ex (h | ⟨b, l, d, rfl, hd, k⟩)
    · unfold ctChoices at h
      rw [ctBL_eq] at h
      obtain ⟨b, l, k0, rfl, hb, hl, ⟨hk1, hk2⟩, k⟩ := h
      walk_at "w"
      refine Or.inl ⟨k0, rfl, hk1, hk2, ?_⟩
      walk_at "w"
      refine bl_at () rfl hb hl trivial ?_
      walk_at "w"
      refine ⟨b, l, k0, rfl, hb, hl, ?_⟩
      walk_at "f"
      exact k
    · walk_at "w"
      exact Or.inr ⟨d, rfl, hd, ⟨st, List.Sublist.refl _, k⟩⟩
theorem ok_Rule_priority (S : En K mg) : FnOk P w K mg base (L2.CX P w) 1 S.f_Rule_priority S.d_Rule_priority ["self"] (lowF K (ctGet S.C_Rule "_priority")) := by
  refine fn_low _ S.F_Rule_priority sc_Rule_priority (fun ss st ok ex h => ?_) ?_ (fun cdv A outer s H E hr tk po => (bone (sret (dfld K (dv 0)))))
  · (repeat (first | (obtain ⟨rfl, _⟩ := h; rfl) | (obtain ⟨_, h⟩ := h)))
  · rintro ss st ok ex ⟨fs, d, rfl, hl, k⟩
    walk_at "w"
    refine ⟨S.cl_Rule, S.na_Rule_priority, d, hl, ?_⟩
    walk_at "f"
    exact k
theorem ok_worth (S : En K mg) : FnOk P w K mg base (L2.CX P w) 5 S.f_worth S.d_worth ["book", "listing", "names"] (lowF K (ctWorth ⟨S.C_Book, S.C_Rule, S.C_Listing, S.C_Sending⟩)) := by
  refine fn_low _ S.F_worth sc_worth (fun ss st ok ex h => ?_) ?_ (fun cdv A outer s H E hr tk po => (bone (sret (dcb (cr_sum rfl) lc_sum S.n_sum PyProof.Rows.boot_sum (acons (dlc [("name", 3)] sc_worth.nd (iT (dv 2)) (blkOk_by (N := ["book", "listing", "names", "name"]) (sc := defScope s_worth) (by decide +kernel)) (fun _ _ _ _ _ => (gwname 3 sc_worth.nd)) (fun _ _ _ _ _ => tsnil) (fun _ _ _ _ _ => (dprop S.cl_Rule S.p_Rule_priority (ok_Rule_priority S) (hr.mono (by decide)) S.b_Rule_priority (dcall (dds := []) (ok_rule_for S) (hr.mono (by decide)) S.g_rule_for S.F_rule_for.kp S.b_rule_for .nil (fun _ => .nil) takes0 (acons (dv 0) (acons (dget S.sg_Listing_getitem S.fi_Listing_getitem S.fn_Listing_getitem (ok_Listing_getitem S) (hr.mono (by decide)) S.b_Listing_getitem takes0 (dv 1) (dv 3)) anil)))))) anil)))))
  · rw [ctWorth_eq] at h; obtain ⟨_, _, _, rfl, _⟩ := h; rfl
  · intro ss st ok ex h
    rw [ctWorth_eq] at h
    obtain ⟨b, l, t, rfl, hb, hl, h10, hin, k⟩ := h
    walk_at "w"
    refine lc_pure t .str (fun n => some (.int (prioAt b l n))) (by rw [List.map_map]; rfl) ?_ ?_
    · intro i n D acc hx hD J
      obtain ⟨w, hw, rfl⟩ := List.mem_map.mp (hin n (List.mem_of_getElem? hx))
      obtain ⟨hw1, hw2⟩ := wished_mem.mp hw
      walk_at "ss"
      refine ⟨rfl, ?_⟩
      rw [ctItem_eq]
      refine ⟨l, w.n, w.s, rfl, hl.get hw1, ?_⟩
      walk_at "w"
      rw [ctRuleFor_eq]
      refine ⟨b, w.s, rfl, hb, (hl.ok _ hw1).2, ?_⟩
      rw [hw2]
      walk_at "w"
      refine ⟨rfl, _, _, rfl, rfl, ?_⟩
      walk_at "w"
      exact lc_yes (by rw [sizeLine_eq]; omega) hx J (by rw [prioAt_is hl hw])
    · rw [fm_some]
      walk_at "w"
      refine ⟨t.map (prioAt b l), by rw [List.map_map, List.map_map]; rfl, ?_⟩
      walk_at "f"
      exact k
theorem ok_steady_choice (S : En K mg) : FnOk P w K mg base (L2.CX P w) 8 S.f_steady_choice S.d_steady_choice ["book", "listing", "receivers", "names"] (lowF K (ctSteadyX ⟨S.C_Book, S.C_Rule, S.C_Listing, S.C_Sending⟩ S.C_InvalidNumber)) := by
  refine fn_low _ S.F_steady_choice sc_steady_choice (fun ss st ok ex h => ?_) ?_ (fun cdv A outer s H E hr tk po => (bcons (sset 4 sc_steady_choice.nd (dlstO anil))
  (bcons (sfor po (iL (dcall (dds := []) (ok_all_choices S) (hr.mono (by decide)) S.g_all_choices S.F_all_choices.kp S.b_all_choices .nil (fun _ => .nil) tk (acons (dv 0) (acons (dv 1) (acons (dv 2) anil))))) (gname 5 sc_steady_choice.nd)
   (bcons (ssetLc 6 [("name", 7)] sc_steady_choice.nd (iT (dv 5)) (blkOk_by (N := ["book", "listing", "receivers", "names", "rows", "chosen", "kept", "name", "best"]) (sc := defScope s_steady_choice) (by decide +kernel)) (fun _ _ _ _ _ => (gwname 7 sc_steady_choice.nd)) (fun _ _ _ _ _ => (tsone (tsIn hr (dv 7) (dv 3)))) (fun _ _ _ _ _ => (dv 7)))
  (bone (sapp (dv 4) (dtup (acons (dneg (dcb call_len_seq lc_lenL S.n_len PySem.boot_len (acons (dv 6) anil))) (acons (dneg (dcall (dds := []) (ok_worth S) (hr.mono (by decide)) S.g_worth S.F_worth.kp S.b_worth .nil (fun _ => .nil) tk (acons (dv 0) (acons (dv 1) (acons (dv 5) anil))))) (acons (dneg (dcb call_len_seq lc_lenT S.n_len PySem.boot_len (acons (dv 5) anil))) (acons (dv 5) anil)))))))))
  (bcons (sset 8 sc_steady_choice.nd (dcb (cr_minP rfl (hu65 hr)) lc_bestP S.n_min PyProof.Rows.boot_min (acons (dv 4) anil)))
  (bone (sret (dtup (acons (dneg (dix ix_tup lr_ixT (dv 8) di)) (acons (dneg (dix ix_tup lr_ixT (dv 8) di)) (acons (dix ix_tup lr_ixT (dv 8) di) anil))))))))))
  · rcases h with ⟨_, _, _, _, rfl, _⟩ | ⟨_, _, _, _, rfl, _⟩ <;> rfl
  · rintro ss st ok ex (⟨b, l, k0, ns, rfl, hb, hl, hk1, hk2, hw, k⟩ | ⟨b, l, d, t, rfl, hd, k⟩)
    · have hfew : (choicesIn b l k0).length ≤ 1024 := choices_few hl k0
      walk_at "w"
      refine ⟨Nat.zero_le _, ?_⟩
      walk_at "w"
      intro p hp
      walk_at "w"
      refine Or.inl (bl_at k0 rfl hb hl ⟨hk1, hk2⟩ ?_)
      walk_at "w"
      refine loop_fold (choicesIn b l k0) nsD (fun s t => s ++ [stRow b l ns t]) ([] : List StR) (fun rs Δ' st' => ∃ v5 v6 v7 v8, Δ' = [.dat (b.d ⟨S.C_Book, S.C_Rule, S.C_Listing, S.C_Sending⟩), .dat (lstD ⟨S.C_Book, S.C_Rule, S.C_Listing, S.C_Sending⟩ l), dI (k0 : Int), .dat (nsD ns), .own p, v5, v6, v7, v8] ∧ st' = (p, .lst (rs.map fun r => .dat (stD r))) :: st) (by rw [List.map_map]; rfl) ⟨_, _, _, _, rfl, rfl⟩ ?_ ?_
      · rintro pre t post rs Δ' st' has hs ⟨v5, v6, v7, v8, rfl, rfl⟩
        rw [fold_snoc, List.nil_append] at hs
        have ht : t ∈ choicesIn b l k0 := by rw [has]; simp
        obtain ⟨h1, h2⟩ := choices_in hl ht
        have hrl : rs.length ≤ 1024 := by
          rw [hs, List.length_map]
          have := congrArg List.length has
          rw [List.length_append, List.length_cons] at this
          omega
        have htw : ∀ n ∈ t, isWord n = true := fun n hn => by
          obtain ⟨w, hw, rfl⟩ := List.mem_map.mp (h2 n hn)
          exact (hl.ok _ (wished_mem.mp hw).1).1
        walk_at "w"
        refine lc_pure t .str (fun n => if isIn ns n = true then some (.str n) else none) (by rw [List.map_map]; rfl) ?_ ?_
        · intro i n D acc hi hD J
          walk_at "ss"
          refine ⟨txtP n, ns.map txtP, txt_of _, txts_of _, txt_shaped _ (htw n (List.mem_of_getElem? hi)), txts_lay _ hw, ?_⟩
          rw [txt_any]
          refine ⟨fun h => ?_, fun h => ?_⟩
          · exact lc_yes (by rw [sizeLine_eq]; omega) hi J (if_pos h)
          · exact lc_no hi J (if_neg (by unfold isIn; have h : decide (n ∈ ns) = false := h; rw [h]; decide))
        rw [fm_if]
        walk_at "w"
        refine ⟨⟨0, _, rfl⟩, ?_⟩
        walk_at "w"
        rw [ctWorth_eq]
        refine ⟨b, l, t, rfl, hb, hl, h1, h2, ?_⟩
        walk_at "w"
        refine ⟨by show 4 ≤ sizeLine; rw [sizeLine_eq]; decide, ?_⟩
        walk_at "w"
        refine ⟨0, _, rfl, by rw [List.length_map, sizeLine_eq]; omega, ?_⟩
        walk_at "w"
        refine ⟨_, _, _, _, rfl, ?_⟩
        rw [List.map_append]
        simp only [List.length_map]
        rfl
      · rintro Δ' st' ⟨v5, v6, v7, v8, rfl, rfl⟩
        rw [fold_snoc, List.nil_append]
        cases hc : choicesIn b l k0 with
        | nil =>
          have := choices_nil b l k0
          rw [hc] at this
          cases this
        | cons c0 cs =>
          walk_at "w"
          refine ⟨0, _, rfl, ?_⟩
          refine ⟨StR, stRow b l ns c0, cs.map (stRow b l ns), stD, stP, ?_, st_of, st_alike _, st_depth _, fun r hr hm => ?_⟩
          · rw [List.map_cons]
          obtain ⟨t, ht, rfl⟩ : ∃ t, t ∈ c0 :: cs ∧ r = stRow b l ns t := by
            rcases List.mem_cons.mp hr with rfl | hr
            · exact ⟨c0, List.mem_cons_self, rfl⟩
            · obtain ⟨t, ht, rfl⟩ := List.mem_map.mp hr
              exact ⟨t, List.mem_cons_of_mem _ ht, rfl⟩
          rw [List.map_map] at hm
          have kb := k t (by rw [hc]; exact steady_min ht hm)
          walk_at "w"
          refine ⟨_, rfl, ?_⟩
          walk_at "w"
          refine ⟨_, rfl, ?_⟩
          walk_at "w"
          refine ⟨_, rfl, ?_⟩
          walk_at "w"
          refine ⟨by show 3 ≤ sizeLine; rw [sizeLine_eq]; decide, ?_⟩
          walk_at "w"
          refine ⟨_, _, .keep (.cons _ (List.Sublist.refl _)), ?_⟩
          have e : -(-worthOf b l t) = worthOf b l t := Int.neg_neg _
          have e2 : -(-(keptOf ns t : Int)) = (keptOf ns t : Int) := Int.neg_neg _
          rw [← e, ← e2] at kb
          exact kb
    · walk_at "w"
      refine ⟨Nat.zero_le _, ?_⟩
      walk_at "w"
      intro p hp
      walk_at "w"
      refine Or.inr ⟨b, l, d, rfl, hd, ?_⟩
      exact ⟨st, .cons _ (List.Sublist.refl _), k⟩
theorem ok_wrong_part_books (S : En K mg) : FnOk P w K mg base (L2.CX P w) 2 S.f_wrong_part_books S.d_wrong_part_books ["show", "first", "last", "priority", "before", "after"] (lowF K ctWrongR) := by
  refine fn_low _ S.F_wrong_part_books sc_wrong_part_books (fun ss st ok ex h => ?_) ?_ (fun cdv A outer s H E hr tk po => (bcons (sif (tnot (tval (dcall (dds := []) (ok_is_word S) (hr.mono (by decide)) S.g_is_word S.F_is_word.kp S.b_is_word .nil (fun _ => .nil) tk (acons (dv 0) anil))))
   (bone (sret ds)) bnil)
  (bcons (sif (tnot (tval (dcall (dds := []) (ok_is_number S) (hr.mono (by decide)) S.g_is_number S.F_is_number.kp S.b_is_number .nil (fun _ => .nil) tk (acons (dv 1) (acons di (acons (dgl S.c_GREATEST_EPISODE S.r_GREATEST_EPISODE) anil))))))
   (bone (sret ds)) bnil)
  (bcons (sif (tnot (tval (dcall (dds := []) (ok_is_number S) (hr.mono (by decide)) S.g_is_number S.F_is_number.kp S.b_is_number .nil (fun _ => .nil) tk (acons (dv 2) (acons (dv 1) (acons (dgl S.c_GREATEST_EPISODE S.r_GREATEST_EPISODE) anil))))))
   (bone (sret ds)) bnil)
  (bcons (sif (tnot (tval (dcall (dds := []) (ok_is_number S) (hr.mono (by decide)) S.g_is_number S.F_is_number.kp S.b_is_number .nil (fun _ => .nil) tk (acons (dv 3) (acons di (acons (dgl S.c_GREATEST_PRIORITY S.r_GREATEST_PRIORITY) anil))))))
   (bone (sret ds)) bnil)
  (bcons (sif (tnot (tval (dcall (dds := []) (ok_is_number S) (hr.mono (by decide)) S.g_is_number S.F_is_number.kp S.b_is_number .nil (fun _ => .nil) tk (acons (dv 4) (acons di (acons (dgl S.c_MOST_PADDING S.r_MOST_PADDING) anil))))))
   (bone (sret ds)) bnil)
  (bcons (sif (tnot (tval (dcall (dds := []) (ok_is_number S) (hr.mono (by decide)) S.g_is_number S.F_is_number.kp S.b_is_number .nil (fun _ => .nil) tk (acons (dv 5) (acons di (acons (dgl S.c_MOST_PADDING S.r_MOST_PADDING) anil))))))
   (bone (sret ds)) bnil)
  (bone (sret dn)))))))))
  · (repeat (first | (obtain ⟨rfl, _⟩ := h; rfl) | (obtain ⟨_, h⟩ := h)))
  · rintro ss st ok ex ⟨c, s, e, b, n, l, rfl, hc, hs, he, hb, hn, hl, k⟩
    unfold wrongR at k
    walk_at "w"
    refine ⟨c, rfl, hc, ?_⟩
    cases h1 : wordD c with
    | false => walk_at "d"; walk_at "f"; rw [h1, cond_false] at k; exact k
    | true =>
    rw [h1, cond_true] at k
    walk_at "d"; walk_at "w"
    refine ⟨s, _, _, rfl, hs, ?_⟩
    cases h3 : isNum s 1 999 with
    | false => walk_at "d"; walk_at "f"; rw [h3, cond_false] at k; exact k
    | true =>
    rw [h3, cond_true] at k
    obtain ⟨s, rfl, -, -⟩ := isNum_int h3
    walk_at "d"; walk_at "w"
    refine ⟨e, _, _, rfl, he, ?_⟩
    dsimp only [inI] at k
    cases h2 : isNum e s 999 with
    | false => walk_at "d"; walk_at "f"; rw [h2, cond_false] at k; exact k
    | true =>
    rw [h2, cond_true] at k
    walk_at "d"; walk_at "w"
    refine ⟨b, _, _, rfl, hb, ?_⟩
    cases h4 : isNum b 1 9 with
    | false => walk_at "d"; walk_at "f"; rw [h4, cond_false] at k; exact k
    | true =>
    rw [h4, cond_true] at k
    walk_at "d"; walk_at "w"
    refine ⟨n, _, _, rfl, hn, ?_⟩
    cases h5 : isNum n 0 60 with
    | false => walk_at "d"; walk_at "f"; rw [h5, cond_false] at k; exact k
    | true =>
    rw [h5, cond_true] at k
    walk_at "d"; walk_at "w"
    refine ⟨l, _, _, rfl, hl, ?_⟩
    cases h6 : isNum l 0 60 with
    | false => walk_at "d"; walk_at "f"; rw [h6, cond_false] at k; exact k
    | true =>
    rw [h6, cond_true] at k
    walk_at "d"; walk_at "f"; exact k
theorem ok_Rule_init (S : En K mg) : FnOk P w K mg base (L2.CX P w) 3 S.f_Rule_init S.d_Rule_init ["self", "show", "first", "last", "priority", "before", "after"] (lowF K (ctInitR S.C_Rule S.C_InvalidRule)) := by
  refine fn_lowD _ S.F_Rule_init sc_Rule_init (fun ss st ok ex h => ?_) ?_ (fun cdv A outer s H E hr tk po => (bcons (sset 7 sc_Rule_init.nd (dcall (dds := []) (ok_wrong_part_books S) (hr.mono (by decide)) S.g_wrong_part_books S.F_wrong_part_books.kp S.b_wrong_part_books .nil (fun _ => .nil) tk (acons (dv 1) (acons (dv 2) (acons (dv 3) (acons (dv 4) (acons (dv 5) (acons (dv 6) anil))))))))
  (bcons (sif (tnotN (dv 7))
   (bone (sraise1 S.T_InvalidRule S.i_InvalidRule S.t_InvalidRule (ok_InvalidRule S) hr S.b_InvalidRule_init S.g_InvalidRule tk (acons (dv 7) anil))) bnil)
  (bcons (ssetF K (dv 1) (dv 0))
  (bcons (ssetF K (dv 2) (dv 0))
  (bcons (ssetF K (dv 3) (dv 0))
  (bcons (ssetF K (dv 4) (dv 0))
  (bcons (ssetF K (dv 5) (dv 0))
  (bone (ssetF K (dv 6) (dv 0)))))))))))
  · (repeat (first | (obtain ⟨rfl, _⟩ := h; rfl) | (obtain ⟨_, h⟩ := h)))
  · rintro ss st ok ex ⟨p, st0, a, b, c, d, e, g, rfl, rfl, ha, hb, hc, hd, he, hg, hx, hk⟩
    walk_at "w"
    refine ⟨a, b, c, d, e, g, rfl, ha, hb, hc, hd, he, hg, ?_⟩
    cases hw : wrongR a b c d e g with
    | some z =>
      walk_at "d"
      walk_at "w"
      exact ⟨st0, .cons _ (List.Sublist.refl _), hx z hw⟩
    | none =>
      walk_at "d"
      walk_at "w"
      refine ⟨0, _, _, _, rfl, S.cl_Rule, S.na_Rule_show, (by show (0 : Nat) < 1000; decide), rfl, ?_⟩
      walk_at "w"
      refine ⟨0, _, _, _, rfl, S.cl_Rule, S.na_Rule_first, (by show (1 : Nat) < 1000; decide), rfl, ?_⟩
      walk_at "w"
      refine ⟨0, _, _, _, rfl, S.cl_Rule, S.na_Rule_last, (by show (2 : Nat) < 1000; decide), rfl, ?_⟩
      walk_at "w"
      refine ⟨0, _, _, _, rfl, S.cl_Rule, S.na_Rule_priority, (by show (3 : Nat) < 1000; decide), rfl, ?_⟩
      walk_at "w"
      refine ⟨0, _, _, _, rfl, S.cl_Rule, S.na_Rule_before, (by show (4 : Nat) < 1000; decide), rfl, ?_⟩
      walk_at "w"
      refine ⟨0, _, _, _, rfl, S.cl_Rule, S.na_Rule_after, (by show (5 : Nat) < 1000; decide), rfl, ?_⟩
      walk_at "w"
      exact ⟨_, List.Sublist.refl _, hk hw⟩
theorem ok_Book_init (S : En K mg) : FnOk P w K mg base (L2.CX P w) 1 S.f_Book_init S.d_Book_init ["self", "rules", "seen"] (lowF K (ctBook ⟨S.C_Book, S.C_Rule, S.C_Listing, S.C_Sending⟩)) := by
  refine fn_lowD _ S.F_Book_init sc_Book_init (fun ss st ok ex h => ?_) ?_ (fun cdv A outer s H E hr tk po => (bcons (sif (tcmp op_gt lr_gt (dcb call_len_seq lc_lenT S.n_len PySem.boot_len (acons (dv 1) anil)) (dgl S.c_MOST_RULES S.r_MOST_RULES) (nomark _))
   (bone (sraise0 PySem.F.excBase_ValueError S.x_InvalidBook S.g_InvalidBook S.kc_InvalidBook (raises_own S.r_InvalidBook S.ty_InvalidBook) tk)) bnil)
  (bcons (ssetF K (dct call_tuple_of lc_tup S.n_tuple PyProof.Rows.boot_tuple (acons (dv 1) anil)) (dv 0))
  (bone (ssetF K (dct call_tuple_of lc_tup S.n_tuple PyProof.Rows.boot_tuple (acons (dv 2) anil)) (dv 0))))))
  · rw [ctBook_eq] at h; obtain ⟨_, _, _, _, rfl, _⟩ := h; rfl
  · intro ss st ok ex h
    rw [ctBook_eq] at h
    obtain ⟨q, st0, rs, es, rfl, rfl, hl, k⟩ := h
    walk_at "w"
    refine ⟨fun h => ?_, fun _ => ?_⟩
    · rw [List.length_map, List.length_map] at h
      have := of_decide_eq_true h
      omega
    walk_at "w"
    refine ⟨0, _, _, _, rfl, S.cl_Book, S.na_Book_rules, (by show (0 : Nat) < 1000; decide), rfl, ?_⟩
    walk_at "w"
    refine ⟨0, _, _, _, rfl, S.cl_Book, S.na_Book_seen, (by show (1 : Nat) < 1000; decide), rfl, ?_⟩
    walk_at "w"
    exact ⟨_, List.Sublist.refl _, k⟩
theorem ok_Book_rules (S : En K mg) : FnOk P w K mg base (L2.CX P w) 1 S.f_Book_rules S.d_Book_rules ["self"] (lowF K (ctGet S.C_Book "_rules")) := by
  refine fn_low _ S.F_Book_rules sc_Book_rules (fun ss st ok ex h => ?_) ?_ (fun cdv A outer s H E hr tk po => (bone (sret (dfld K (dv 0)))))
  · (repeat (first | (obtain ⟨rfl, _⟩ := h; rfl) | (obtain ⟨_, h⟩ := h)))
  · rintro ss st ok ex ⟨fs, d, rfl, hl, k⟩
    walk_at "w"
    refine ⟨S.cl_Book, S.na_Book_rules, d, hl, ?_⟩
    walk_at "f"
    exact k
theorem ok_Book_seen (S : En K mg) : FnOk P w K mg base (L2.CX P w) 1 S.f_Book_seen S.d_Book_seen ["self"] (lowF K (ctGet S.C_Book "_seen")) := by
  refine fn_low _ S.F_Book_seen sc_Book_seen (fun ss st ok ex h => ?_) ?_ (fun cdv A outer s H E hr tk po => (bone (sret (dfld K (dv 0)))))
  · (repeat (first | (obtain ⟨rfl, _⟩ := h; rfl) | (obtain ⟨_, h⟩ := h)))
  · rintro ss st ok ex ⟨fs, d, rfl, hl, k⟩
    walk_at "w"
    refine ⟨S.cl_Book, S.na_Book_seen, d, hl, ?_⟩
    walk_at "f"
    exact k
theorem ok_wrong_part_listings (S : En K mg) : FnOk P w K mg base (L2.CX P w) 2 S.f_wrong_part_listings S.d_wrong_part_listings ["channel", "show", "episode", "begin", "end", "late"] (lowF K ctWrongS) := by
  refine fn_low _ S.F_wrong_part_listings sc_wrong_part_listings (fun ss st ok ex h => ?_) ?_ (fun cdv A outer s H E hr tk po => (bcons (sif (tnot (tval (dcall (dds := []) (ok_is_word S) (hr.mono (by decide)) S.g_is_word S.F_is_word.kp S.b_is_word .nil (fun _ => .nil) tk (acons (dv 0) anil))))
   (bone (sret ds)) bnil)
  (bcons (sif (tnot (tval (dcall (dds := []) (ok_is_word S) (hr.mono (by decide)) S.g_is_word S.F_is_word.kp S.b_is_word .nil (fun _ => .nil) tk (acons (dv 1) anil))))
   (bone (sret ds)) bnil)
  (bcons (sif (tnot (tval (dcall (dds := []) (ok_is_number S) (hr.mono (by decide)) S.g_is_number S.F_is_number.kp S.b_is_number .nil (fun _ => .nil) tk (acons (dv 2) (acons di (acons (dgl S.c_GREATEST_EPISODE S.r_GREATEST_EPISODE) anil))))))
   (bone (sret ds)) bnil)
  (bcons (sif (tnot (tval (dcall (dds := []) (ok_is_number S) (hr.mono (by decide)) S.g_is_number S.F_is_number.kp S.b_is_number .nil (fun _ => .nil) tk (acons (dv 3) (acons di (acons (dgl S.c_LATEST_BEGIN S.r_LATEST_BEGIN) anil))))))
   (bone (sret ds)) bnil)
  (bcons (sif (tnot (tval (dcall (dds := []) (ok_is_number S) (hr.mono (by decide)) S.g_is_number S.F_is_number.kp S.b_is_number .nil (fun _ => .nil) tk (acons (dv 4) (acons (dop op_add lr_add (dv 3) di) (acons (dgl S.c_LATEST_END S.r_LATEST_END) anil))))))
   (bone (sret ds)) bnil)
  (bcons (sif (tnot (tval (dcall (dds := []) (ok_is_number S) (hr.mono (by decide)) S.g_is_number S.F_is_number.kp S.b_is_number .nil (fun _ => .nil) tk (acons (dv 5) (acons di (acons (dgl S.c_MOST_LATE S.r_MOST_LATE) anil))))))
   (bone (sret ds)) bnil)
  (bone (sret dn)))))))))
  · (repeat (first | (obtain ⟨rfl, _⟩ := h; rfl) | (obtain ⟨_, h⟩ := h)))
  · rintro ss st ok ex ⟨c, s, e, b, n, l, rfl, hc, hs, he, hb, hn, hl, k⟩
    unfold wrongS at k
    walk_at "w"
    refine ⟨c, rfl, hc, ?_⟩
    cases h1 : wordD c with
    | false => walk_at "d"; walk_at "f"; rw [h1, cond_false] at k; exact k
    | true =>
    rw [h1, cond_true] at k
    walk_at "d"; walk_at "w"
    refine ⟨s, rfl, hs, ?_⟩
    cases h2 : wordD s with
    | false => walk_at "d"; walk_at "f"; rw [h2, cond_false] at k; exact k
    | true =>
    rw [h2, cond_true] at k
    walk_at "d"; walk_at "w"
    refine ⟨e, _, _, rfl, he, ?_⟩
    cases h3 : isNum e 1 999 with
    | false => walk_at "d"; walk_at "f"; rw [h3, cond_false] at k; exact k
    | true =>
    rw [h3, cond_true] at k
    walk_at "d"; walk_at "w"
    refine ⟨b, _, _, rfl, hb, ?_⟩
    cases h4 : isNum b 0 1000000 with
    | false => walk_at "d"; walk_at "f"; rw [h4, cond_false] at k; exact k
    | true =>
    rw [h4, cond_true] at k
    obtain ⟨b, rfl, -, -⟩ := isNum_int h4
    walk_at "d"; walk_at "w"
    refine ⟨n, _, _, rfl, hn, ?_⟩
    dsimp only [inI] at k
    cases h5 : isNum n (b + 1) 1000600 with
    | false => walk_at "d"; walk_at "f"; rw [h5, cond_false] at k; exact k
    | true =>
    rw [h5, cond_true] at k
    walk_at "d"; walk_at "w"
    refine ⟨l, _, _, rfl, hl, ?_⟩
    cases h6 : isNum l 0 60 with
    | false => walk_at "d"; walk_at "f"; rw [h6, cond_false] at k; exact k
    | true =>
    rw [h6, cond_true] at k
    walk_at "d"; walk_at "f"; exact k
theorem ok_Sending_init (S : En K mg) : FnOk P w K mg base (L2.CX P w) 3 S.f_Sending_init S.d_Sending_init ["self", "channel", "show", "episode", "begin", "end", "late"] (lowF K (ctInitS S.C_Sending S.C_InvalidSending)) := by
  refine fn_lowD _ S.F_Sending_init sc_Sending_init (fun ss st ok ex h => ?_) ?_ (fun cdv A outer s H E hr tk po => (bcons (sset 7 sc_Sending_init.nd (dcall (dds := []) (ok_wrong_part_listings S) (hr.mono (by decide)) S.g_wrong_part_listings S.F_wrong_part_listings.kp S.b_wrong_part_listings .nil (fun _ => .nil) tk (acons (dv 1) (acons (dv 2) (acons (dv 3) (acons (dv 4) (acons (dv 5) (acons (dv 6) anil))))))))
  (bcons (sif (tnotN (dv 7))
   (bone (sraise1 S.T_InvalidSending S.i_InvalidSending S.t_InvalidSending (ok_InvalidSending S) hr S.b_InvalidSending_init S.g_InvalidSending tk (acons (dv 7) anil))) bnil)
  (bcons (ssetF K (dv 1) (dv 0))
  (bcons (ssetF K (dv 2) (dv 0))
  (bcons (ssetF K (dv 3) (dv 0))
  (bcons (ssetF K (dv 4) (dv 0))
  (bcons (ssetF K (dv 5) (dv 0))
  (bone (ssetF K (dv 6) (dv 0)))))))))))
  · (repeat (first | (obtain ⟨rfl, _⟩ := h; rfl) | (obtain ⟨_, h⟩ := h)))
  · rintro ss st ok ex ⟨p, st0, a, b, c, d, e, g, rfl, rfl, ha, hb, hc, hd, he, hg, hx, hk⟩
    walk_at "w"
    refine ⟨a, b, c, d, e, g, rfl, ha, hb, hc, hd, he, hg, ?_⟩
    cases hw : wrongS a b c d e g with
    | some z =>
      walk_at "d"
      walk_at "w"
      exact ⟨st0, .cons _ (List.Sublist.refl _), hx z hw⟩
    | none =>
      walk_at "d"
      walk_at "w"
      refine ⟨0, _, _, _, rfl, S.cl_Sending, S.na_Sending_channel, (by show (0 : Nat) < 1000; decide), rfl, ?_⟩
      walk_at "w"
      refine ⟨0, _, _, _, rfl, S.cl_Sending, S.na_Sending_show, (by show (1 : Nat) < 1000; decide), rfl, ?_⟩
      walk_at "w"
      refine ⟨0, _, _, _, rfl, S.cl_Sending, S.na_Sending_episode, (by show (2 : Nat) < 1000; decide), rfl, ?_⟩
      walk_at "w"
      refine ⟨0, _, _, _, rfl, S.cl_Sending, S.na_Sending_begin, (by show (3 : Nat) < 1000; decide), rfl, ?_⟩
      walk_at "w"
      refine ⟨0, _, _, _, rfl, S.cl_Sending, S.na_Sending_end, (by show (4 : Nat) < 1000; decide), rfl, ?_⟩
      walk_at "w"
      refine ⟨0, _, _, _, rfl, S.cl_Sending, S.na_Sending_late, (by show (5 : Nat) < 1000; decide), rfl, ?_⟩
      walk_at "w"
      exact ⟨_, List.Sublist.refl _, hk hw⟩
theorem ok_Listing_init (S : En K mg) : FnOk P w K mg base (L2.CX P w) 3 S.f_Listing_init S.d_Listing_init ["self", "sendings"] (lowF K (ctListingU ⟨S.C_Book, S.C_Rule, S.C_Listing, S.C_Sending⟩)) := by
  refine fn_low _ S.F_Listing_init sc_Listing_init (fun ss st ok ex h => ?_) ?_ (fun cdv A outer s H E hr tk po => (bcons (sset 2 sc_Listing_init.nd (dcb (cr_sortP (hu65 hr)) lc_sortP S.n_sorted PyProof.Rows.boot_sorted (acons (dlcK [("name", 3)] sc_Listing_init.nd (dv 1) (blkOk_by (N := ["self", "sendings", "wrong", "name", "names"]) (sc := defScope s_Listing_init) (by decide +kernel)) (fun _ _ _ _ _ => (gwname 3 sc_Listing_init.nd)) (fun _ _ _ _ _ => (tsone (tnot (tval (dcall (dds := []) (ok_is_word S) (hr.mono (by decide)) S.g_is_word S.F_is_word.kp S.b_is_word .nil (fun _ => .nil) takes0 (acons (dv 3) anil)))))) (fun _ _ _ _ _ => (dv 3))) anil)))
  (bcons (sif (ttruL (dv 2))
   (bone (sraise1 S.T_InvalidListing S.i_InvalidListing S.t_InvalidListing (ok_InvalidListing S) hr S.b_InvalidListing_init S.g_InvalidListing tk (acons (dix ix_list lr_ixL (dv 2) di) anil))) bnil)
  (bcons (sset 4 sc_Listing_init.nd (dcb (call_sortedD rfl) lc_sortK S.n_sorted PyProof.Rows.boot_sorted (acons (dv 1) anil)))
  (bcons (sif (tcmp op_gt lr_gt (dcb call_len_seq lc_lenL S.n_len PySem.boot_len (acons (dv 4) anil)) (dgl S.c_MOST_SENDINGS S.r_MOST_SENDINGS) (nomark _))
   (bone (sraise1 S.T_InvalidListing S.i_InvalidListing S.t_InvalidListing (ok_InvalidListing S) hr S.b_InvalidListing_init S.g_InvalidListing tk (acons (dix ix_list lr_ixL (dv 4) (dgl S.c_MOST_SENDINGS S.r_MOST_SENDINGS)) anil))) bnil)
  (bone (ssetF K (ddc [("name", 3)] sc_Listing_init.nd (iL (dv 4)) (blkOk_by (N := ["self", "sendings", "wrong", "name", "names"]) (sc := defScope s_Listing_init) (by decide +kernel)) (fun _ _ _ _ _ => (gwname 3 sc_Listing_init.nd)) (fun _ _ _ _ _ => tsnil) (fun _ _ _ _ _ => (dv 3)) (fun _ _ _ _ _ => (ddget (hu1 hr) (dv 1) (dv 3)))) (dv 0))))))))
  · rw [ctListingU_eq] at h; obtain ⟨_, _, _, rfl, _⟩ := h; rfl
  · intro ss st ok ex h
    rw [ctListingU_eq] at h
    obtain ⟨q, st0, l, rfl, rfl, hl, hnd, hw, k⟩ := h
    walk_at "w"
    refine lc_pure l (fun x => .str x.1) (fun _ => none) (by unfold keysD; rw [List.map_map]; rfl) ?_ ?_
    · intro i x D acc hx hD J
      have hwx := hw x (List.mem_of_getElem? hx)
      walk_at "w"
      refine ⟨.str x.1, rfl, word_len hwx, ?_⟩
      rw [show wordD (.str x.1) = true from hwx]
      walk_at "ss"
      exact lc_no hx J rfl
    rw [show l.filterMap (fun _ => (none : Option Dt)) = [] from by simp]
    walk_at "w"
    refine ⟨Str, [], .str, .str, rfl, fun b => .str b, fun d hd => (by cases hd), .inl fun d hd => (by cases hd), fun b hb => (by cases hb), ?_⟩
    rw [List.mergeSort_nil]
    walk_at "w"
    refine ⟨fun h => absurd h Bool.false_ne_true, fun _ => ?_⟩
    walk_at "w"
    refine ⟨l.map (·.1), by rw [List.map_map, List.map_map, List.map_map]; rfl, by rw [List.length_map]; exact Nat.lt_of_le_of_lt hl (by decide), fun ys hy hs => ?_⟩
    obtain rfl := sorted_is hy hs
    rw [← sortL_keys]
    walk_at "w"
    refine ⟨fun h => ?_, fun _ => ?_⟩
    · rw [List.length_map, List.length_map, List.length_map, sortL_len] at h
      have := of_decide_eq_true h
      omega
    walk_at "w"
    refine dc_pure (sortL l) (fun x => .str x.1) (fun x => some ((Sum.inr x.1 : Key), x.2.d S.C_Sending)) (by rw [List.map_map, List.map_map]; rfl) ?_ ?_
    · intro i x D acc hx hD J
      have hxl := sortL_mem (List.mem_of_getElem? hx)
      walk_at "ss"
      refine ⟨.inr x.1, .dat (x.2.d S.C_Sending), rfl, by rw [getD_dic (Snd.d S.C_Sending) l x.1, look_mem hnd hxl]; rfl, ?_⟩
      exact dc_yes (by rw [sortL_len, sizeLine_eq]; omega) (by rw [fm_some, List.map_map]; exact nodup_of (by rw [sortL_keys]; exact (sortN_perm _).nodup_iff.mpr hnd)) hx J rfl rfl
    rw [fm_some]
    walk_at "w"
    refine ⟨0, _, _, _, rfl, S.cl_Listing, S.na_Listing_sendings, (by show (0 : Nat) < 1000; decide), rfl, ?_⟩
    walk_at "w"
    exact ⟨_, List.Sublist.refl _, k⟩
theorem ok_law_begun (S : En K mg) : FnOk P w K mg base (L2.CX P w) 1 S.f_law_begun S.d_law_begun ["_law_script"] (lowF K ctBegun) := by
  refine fn_low _ S.F_law_begun sc_law_begun (fun ss st ok ex h => ?_) ?_ (fun cdv A outer s H E hr tk po => (bcons (sset 1 sc_law_begun.nd di)
  (bcons (sfor po (iL (dv 0)) (gname 2 sc_law_begun.nd)
   (bone (sset 1 sc_law_begun.nd (dop op_mod lr_mod (dct call_int1 lc_int S.n_int PyProof.Rows.boot_int (acons (dop op_add lr_add (dop op_add lr_add (dop op_mul lr_mul (dv 1) di) (dop op_mul lr_mul (dv 2) di)) di) anil)) di))))
  (bone (sret (dlstO (acons (dct call_list_of lc_listLO S.n_list PyProof.Rows.boot_list (acons (dv 0) anil)) (acons (dop op_mul lr_mul (dv 1) (dct call_int1 lc_int S.n_int PyProof.Rows.boot_int (acons (dcmp op_gt lr_gt (dcb call_len_seq lc_lenL S.n_len PySem.boot_len (acons (dv 0) anil)) di (nomark _)) anil))) anil))))))))
  · obtain ⟨_, rfl, _⟩ := h; rfl
  · intro ss st ok ex h
    obtain ⟨ns, rfl, hl, k⟩ := h
    walk_at "w"
    refine loop_fold ns Dt.int (fun (s : Unit) _ => s) () (fun _ Δ' st' => ∃ z v2, Δ' = [.dat (.fls (ns.map Dt.int)), dI z, v2] ∧ st' = st) (by rw [List.map_map]; rfl) ⟨_, _, rfl, rfl⟩ ?_ ?_
    · rintro pre a post _ Δ' st' - - ⟨z, v2, rfl, rfl⟩
      walk_at "w"
      refine ⟨.inr (by decide), ?_⟩
      walk_at "w"
      refine ⟨.inr (by decide), ?_⟩
      walk_at "w"
      refine ⟨by show (0 : Int) < 2147483647; decide, ?_⟩
      walk_at "w"
      exact ⟨_, _, rfl, rfl⟩
    · rintro Δ' st' ⟨z, v2, rfl, rfl⟩
      walk_at "w"
      intro q hq
      walk_at "w"
      refine ⟨.inr (by split <;> decide), ?_⟩
      walk_at "w"
      refine ⟨by show 2 ≤ sizeLine; rw [sizeLine_eq]; decide, ?_⟩
      walk_at "w"
      intro p hp
      walk_at "f"
      have hne : p ≠ q := fun z => hp (z ▸ List.mem_cons_self)
      rw [List.map_map]
      exact k p q _ hne (fun z => hp (List.mem_cons_of_mem _ z)) hq
theorem ok_law_take (S : En K mg) : FnOk P w K mg base (L2.CX P w) 1 S.f_law_take S.d_law_take ["_law_box", "_law_many"] (lowF K ctTake) := by
  refine fn_low _ S.F_law_take sc_law_take (fun ss st ok ex h => ?_) ?_ (fun cdv A outer s H E hr tk po => (bcons (sif (tcmp (op_eqD (hu64 hr)) lr_eqLO (dix ix_list lr_ixL (dv 0) di) (dlst anil) (nomark _))
   (bcons (ssetL (dop op_mod lr_mod (dct call_int1 lc_int S.n_int PyProof.Rows.boot_int (acons (dop op_mul lr_mul (dix ix_list lr_ixL (dv 0) di) di) anil)) di) (dv 0) di)
  (bone (sret (dop op_mod lr_mod (dct call_int1 lc_int S.n_int PyProof.Rows.boot_int (acons (dop op_fdiv lr_div (dix ix_list lr_ixL (dv 0) di) di) anil)) (dv 1))))) bnil)
  (bcons (sset 2 sc_law_take.nd (dix ix_list lr_ixL (dix ix_list lr_ixL (dv 0) di) di))
  (bcons (ssetL (dop op_fdiv lr_div (dv 2) (dv 1)) (dix ix_list lr_ixL (dv 0) di) di)
  (bcons (sif (tw (wor (tcmp op_eq lr_eqS (dix ix_list lr_ixL (dix ix_list lr_ixL (dv 0) di) di) di (nomark _)) (wor1 (tcmp op_eq lr_eqS (dix ix_list lr_ixL (dix ix_list lr_ixL (dv 0) di) di) (dneg di) (nomark _)))))
   (bone (sdrop (dpopAt (dix ix_list lr_ixL (dv 0) di) di))) bnil)
  (bone (sret (dop op_mod lr_mod (dv 2) (dv 1)))))))))
  · rw [ctTake_eq] at h; obtain ⟨_, _, _, _, _, _, _, rfl, _⟩ := h; rfl
  · intro ss st ok ex h
    rw [ctTake_eq] at h
    obtain ⟨p, q, s, xs, lim, j1, j2, rfl, l0, l1, jj, hp, hq, hx, k⟩ := h
    walk_at "w"
    refine ⟨_, _, hp, ?_⟩
    walk_at "dd"
    walk_at "w"
    refine ⟨Int, xs, .int, .int, .list [], rfl, .int, .lst .nil, ints_shaped xs, nil_shaped, ?_⟩
    rw [show PyData.eqv (.list (xs.map PyData.int)) (.list []) = xs.isEmpty from by cases xs <;> simp [PyData.eqv, PyData.eqvAll]]
    walk_at "w"
    refine ⟨fun hb => ?_, fun hb => ?_⟩
    · walk_at "w"
      refine ⟨_, _, hp, ?_⟩
      walk_at "dd"
      walk_at "w"
      refine ⟨.inr (by decide), ?_⟩
      walk_at "w"
      refine ⟨by show (0 : Int) < 2147483647; decide, ?_⟩
      walk_at "w"
      refine ⟨_, _, 1, hp, rfl, ?_⟩
      walk_at "w"
      refine ⟨_, _, set_at hp, ?_⟩
      walk_at "dd"
      walk_at "w"
      refine ⟨⟨by decide, by decide⟩, ?_⟩
      walk_at "w"
      refine ⟨l0, ?_⟩
      walk_at "f"
      have kk := k (s * 48271 % 2147483647 / 7 % lim) (s * 48271 % 2147483647) xs (Int.emod_nonneg _ (Int.ne_of_gt l0)) (Int.emod_lt_of_pos _ l0) (Nat.le_refl _)
      rw [set_self (by rw [List.getElem?_set_ne jj]; exact hq)] at kk
      exact kk
    · cases xs with
      | nil => exact absurd hb (by decide)
      | cons c cs =>
        walk_at "w"
        refine ⟨_, _, hp, ?_⟩
        walk_at "dd"
        walk_at "w"
        refine ⟨dI c, atI_get (by decide) rfl, ?_⟩
        walk_at "w"
        refine ⟨⟨l0, l1⟩, ?_⟩
        walk_at "w"
        refine ⟨_, _, hp, ?_⟩
        walk_at "dd"
        walk_at "w"
        refine ⟨_, _, 0, hq, by unfold ixN; rw [if_pos (by decide), if_pos (by simp)]; rfl, ?_⟩
        walk_at "w"
        have hp2 : (st.set j2 (q, Ob.lst (((c :: cs).map dI).set 0 (dI (c / lim)))))[j1]? = some (p, obB q s) := by rw [List.getElem?_set_ne (Ne.symm jj)]; exact hp
        have hq2 : (st.set j2 (q, Ob.lst (((c :: cs).map dI).set 0 (dI (c / lim)))))[j2]? = some (q, Ob.lst (((c :: cs).map dI).set 0 (dI (c / lim)))) := set_at hq
        walk_at "w"
        refine ⟨_, _, hp2, ?_⟩
        walk_at "dd"
        walk_at "w"
        refine ⟨dI (c / lim), atI_get (by decide) rfl, ?_⟩
        walk_at "w"
        refine ⟨fun h0 => ?_, fun h0 => ?_⟩
        · walk_at "ss"
          refine ⟨_, _, hp2, ?_⟩
          walk_at "dd"
          walk_at "w"
          refine ⟨⟨j2, _, hq2⟩, ?_⟩
          walk_at "w"
          refine ⟨j2, _, 0, dI (c / lim), hq2, by decide, by decide, by unfold seqIndex?; simp, rfl, ?_⟩
          walk_at "w"
          refine ⟨l0, ?_⟩
          walk_at "f"
          have kk := k (c % lim) s cs (Int.emod_nonneg _ (Int.ne_of_gt l0)) (Int.emod_lt_of_pos _ l0) (by simp)
          rw [set_self hp] at kk
          rw [List.set_set]
          exact kk
        · walk_at "w"
          refine ⟨_, _, hp2, ?_⟩
          walk_at "dd"
          walk_at "w"
          refine ⟨dI (c / lim), atI_get (by decide) rfl, ?_⟩
          walk_at "w"
          refine ⟨fun h1 => ?_, fun h1 => ?_⟩
          · walk_at "ss"
            refine ⟨_, _, hp2, ?_⟩
            walk_at "dd"
            walk_at "w"
            refine ⟨⟨j2, _, hq2⟩, ?_⟩
            walk_at "w"
            refine ⟨j2, _, 0, dI (c / lim), hq2, by decide, by decide, by unfold seqIndex?; simp, rfl, ?_⟩
            walk_at "w"
            refine ⟨l0, ?_⟩
            walk_at "f"
            have kk := k (c % lim) s cs (Int.emod_nonneg _ (Int.ne_of_gt l0)) (Int.emod_lt_of_pos _ l0) (by simp)
            rw [set_self hp] at kk
            rw [List.set_set]
            exact kk
          · walk_at "ss"
            refine ⟨l0, ?_⟩
            walk_at "f"
            have kk := k (c % lim) s (c / lim :: cs) (Int.emod_nonneg _ (Int.ne_of_gt l0)) (Int.emod_lt_of_pos _ l0) (Nat.le_refl _)
            rw [set_self hp] at kk
            exact kk
theorem step_law_alike (S : En K mg) (n : Nat) (ih : FnOk P w K mg base (L2.CX P w) n S.f_law_alike S.d_law_alike ["_law_found", "_law_due"] (lowF K (ctAlike n))) : FnOk P w K mg base (L2.CX P w) (n + 1) S.f_law_alike S.d_law_alike ["_law_found", "_law_due"] (lowF K (ctAlike (n + 1))) := by
  refine fn_low _ S.F_law_alike sc_law_alike (fun ss st ok ex h => ?_) ?_ (fun cdv A outer s H E hr tk po => (bcons (sif (tisN (dv 1))
   (bone (sret (disN (dv 0)))) bnil)
  (bcons (sif (tval (disi K S.n_isinstance S.n_bool kb_bool (dv 1)))
   (bone (sret (dand (disi K S.n_isinstance S.n_bool kb_bool (dv 0)) (done (dcmp op_eq lr_eqS (dv 0) (dv 1) (nomark _)))))) bnil)
  (bcons (sif (tval (disi K S.n_isinstance S.n_int kb_int (dv 1)))
   (bone (sret (dand (disi K S.n_isinstance S.n_int kb_int (dv 0)) (dand (dnot (disi K S.n_isinstance S.n_bool kb_bool (dv 0))) (done (dcmp op_eq lr_eqS (dv 0) (dv 1) (nomark _))))))) bnil)
  (bcons (sif (tval (disi K S.n_isinstance S.n_str kb_str (dv 1)))
   (bone (sret (dand (disi K S.n_isinstance S.n_str kb_str (dv 0)) (done (dcmp op_eq lr_eqS (dv 0) (dv 1) (nomark _)))))) bnil)
  (bcons (sif (tw (wor (tcmp op_ne lr_neS (disi K S.n_isinstance S.n_tuple kb_tuple (dv 1)) (disi K S.n_isinstance S.n_tuple kb_tuple (dv 0)) (nomark _)) (wor1 (tcmp op_ne lr_neS (disi K S.n_isinstance S.n_list kb_list (dv 1)) (disi K S.n_isinstance S.n_list kb_list (dv 0)) (nomark _)))))
   (bone (sret db)) bnil)
  (bcons (sif (tcmp op_ne lr_neS (deither (dcb call_len_seq lc_lenL S.n_len PySem.boot_len (acons (dv 0) anil)) (dcb call_len_seq lc_lenT S.n_len PySem.boot_len (acons (dv 0) anil))) (deither (dcb call_len_seq lc_lenL S.n_len PySem.boot_len (acons (dv 1) anil)) (dcb call_len_seq lc_lenT S.n_len PySem.boot_len (acons (dv 1) anil))) (nomark _))
   (bone (sret db)) bnil)
  (bcons (sfor po (iR S.n_range (acons (deither (dcb call_len_seq lc_lenL S.n_len PySem.boot_len (acons (dv 1) anil)) (dcb call_len_seq lc_lenT S.n_len PySem.boot_len (acons (dv 1) anil))) anil)) (gname 2 sc_law_alike.nd)
   (bone (sif (tnot (tval (dcall (dds := []) ih hr S.g_law_alike S.F_law_alike.kp S.b_law_alike .nil (fun _ => .nil) tk (acons (deither (dix ix_list lr_ixL (dv 0) (dv 2)) (dix ix_tup lr_ixT (dv 0) (dv 2))) (acons (deither (dix ix_list lr_ixL (dv 1) (dv 2)) (dix ix_tup lr_ixT (dv 1) (dv 2))) anil)))))
   (bone (sret db)) bnil)))
  (bone (sret db))))))))))
  · (repeat (first | (obtain ⟨rfl, _⟩ := h; rfl) | (obtain ⟨_, h⟩ := h)))
  · rintro ss st ok ex ⟨d, rfl, hd, k⟩
    cases hd with
    | non n =>
      walk_at "ss"
      exact ⟨_, _, .keep (List.Sublist.refl _), k⟩
    | bl n i =>
      walk_at "ss"
      exact ⟨_, _, .keep (List.Sublist.refl _), (decide_eq_true (rfl : i = i)).symm ▸ k⟩
    | int n i =>
      walk_at "ss"
      exact ⟨_, _, .keep (List.Sublist.refl _), (decide_eq_true (rfl : i = i)).symm ▸ k⟩
    | str n i =>
      walk_at "ss"
      exact ⟨_, _, .keep (List.Sublist.refl _), (decide_eq_true (rfl : i = i)).symm ▸ k⟩
    | lst h l =>
      rename_i ds
      walk_at "sl"
      have hn : ((ds.map Sv.dat).length : Int) = ds.length := by rw [List.length_map]
      have hz := sizeLine_eq
      refine ⟨by rw [hn]; omega, by rw [hn]; omega, ?_⟩
      walk_at "w"
      refine loop_fold (List.range ds.length) (fun (i : Nat) => .int (0 + (i : Int))) (fun (s : Unit) _ => s) () (fun _ Δ' st' => ∃ v, Δ' = [.dat (.lst ds), .dat (.lst ds), v] ∧ st' = st) (by unfold rngS; rw [hn, Int.toNat_natCast]) ⟨_, rfl, rfl⟩ ?_ ?_
      · rintro pre a post _ Δ' st' has - ⟨v, rfl, rfl⟩
        have hi : a < ds.length := by
          have : a ∈ List.range ds.length := by rw [has]; simp
          exact List.mem_range.mp this
        have hat : atI (ds.map Sv.dat) (0 + (a : Int)) = some (.dat ds[a]) := by
          refine atI_get (by omega) ?_
          have e : (0 + (a : Int)).toNat = a := by omega
          rw [e, List.getElem?_map, List.getElem?_eq_getElem hi]
          rfl
        walk_at "sl"
        refine ⟨_, hat, ?_⟩
        walk_at "sl"
        refine ⟨_, hat, ?_⟩
        walk_at "w"
        refine ⟨ds[a], rfl, h _ (List.getElem_mem hi), ?_⟩
        walk_at "sl"
        exact ⟨_, rfl, rfl⟩
      · rintro Δ' st' ⟨v, rfl, rfl⟩
        walk_at "f"
        exact k
    | tup h l =>
      rename_i ds
      walk_at "sr"
      have hn : ((ds.map Sv.dat).length : Int) = ds.length := by rw [List.length_map]
      have hz := sizeLine_eq
      refine ⟨by rw [hn]; omega, by rw [hn]; omega, ?_⟩
      walk_at "w"
      refine loop_fold (List.range ds.length) (fun (i : Nat) => .int (0 + (i : Int))) (fun (s : Unit) _ => s) () (fun _ Δ' st' => ∃ v, Δ' = [.dat (.tup ds), .dat (.tup ds), v] ∧ st' = st) (by unfold rngS; rw [hn, Int.toNat_natCast]) ⟨_, rfl, rfl⟩ ?_ ?_
      · rintro pre a post _ Δ' st' has - ⟨v, rfl, rfl⟩
        have hi : a < ds.length := by
          have : a ∈ List.range ds.length := by rw [has]; simp
          exact List.mem_range.mp this
        have hat : atI (ds.map Sv.dat) (0 + (a : Int)) = some (.dat ds[a]) := by
          refine atI_get (by omega) ?_
          have e : (0 + (a : Int)).toNat = a := by omega
          rw [e, List.getElem?_map, List.getElem?_eq_getElem hi]
          rfl
        walk_at "sr"
        refine ⟨_, hat, ?_⟩
        walk_at "sr"
        refine ⟨_, hat, ?_⟩
        walk_at "w"
        refine ⟨ds[a], rfl, h _ (List.getElem_mem hi), ?_⟩
        walk_at "sr"
        exact ⟨_, rfl, rfl⟩
      · rintro Δ' st' ⟨v, rfl, rfl⟩
        walk_at "f"
        exact k
theorem ok_law_alike (S : En K mg) : ∀ n, FnOk P w K mg base (L2.CX P w) n S.f_law_alike S.d_law_alike ["_law_found", "_law_due"] (lowF K (ctAlike n))
  | 0 => fn_none fun ss st ok ex ⟨d, _, h, _⟩ => nomatch h
  | n + 1 => step_law_alike S n (ok_law_alike S n)
theorem ok_law_sending (S : En K mg) : FnOk P w K mg base (L2.CX P w) 5 S.f_law_sending S.d_law_sending ["_law_box"] (lowF K (ctFSend ⟨S.C_Book, S.C_Rule, S.C_Listing, S.C_Sending⟩)) := by
  refine fn_low _ S.F_law_sending sc_law_sending (fun ss st ok ex h => ?_) ?_ (fun cdv A outer s H E hr tk po => (bcons (spar 1 2 sc_law_sending.nd (acons (dix ix_list lr_ixL (dlst (acons ds (acons ds (acons ds anil)))) (dcall (dds := []) (ok_law_take S) (hr.mono (by decide)) S.g_law_take S.F_law_take.kp S.b_law_take .nil (fun _ => .nil) tk (acons (dv 0) (acons di anil)))) (acons (dix ix_list lr_ixL (dlst (acons ds (acons ds (acons ds anil)))) (dcall (dds := []) (ok_law_take S) (hr.mono (by decide)) S.g_law_take S.F_law_take.kp S.b_law_take .nil (fun _ => .nil) tk (acons (dv 0) (acons di anil)))) anil)))
  (bcons (sset 3 sc_law_sending.nd (dcall (dds := []) (ok_law_take S) (hr.mono (by decide)) S.g_law_take S.F_law_take.kp S.b_law_take .nil (fun _ => .nil) tk (acons (dv 0) (acons (dix ix_list lr_ixL (dlst (acons di (acons di anil))) (dcall (dds := []) (ok_law_take S) (hr.mono (by decide)) S.g_law_take S.F_law_take.kp S.b_law_take .nil (fun _ => .nil) tk (acons (dv 0) (acons di anil)))) anil))))
  (bcons (sset 4 sc_law_sending.nd (dop op_add lr_add di (dcall (dds := []) (ok_law_take S) (hr.mono (by decide)) S.g_law_take S.F_law_take.kp S.b_law_take .nil (fun _ => .nil) tk (acons (dv 0) (acons (dix ix_list lr_ixL (dlst (acons di (acons di anil))) (dcall (dds := []) (ok_law_take S) (hr.mono (by decide)) S.g_law_take S.F_law_take.kp S.b_law_take .nil (fun _ => .nil) tk (acons (dv 0) (acons di anil)))) anil)))))
  (bone (sret (dmake (dds := []) S.mk_Sending (ok_Sending_init S) (hr.mono (by decide)) S.g_Sending S.b7_Sending_init S.v7_Sending_init (fun _ => .nil) tk (acons (dv 1) (acons (dv 2) (acons (dop op_add lr_add di (dcall (dds := []) (ok_law_take S) (hr.mono (by decide)) S.g_law_take S.F_law_take.kp S.b_law_take .nil (fun _ => .nil) tk (acons (dv 0) (acons di anil)))) (acons (dv 3) (acons (dop op_add lr_add (dv 3) (dv 4)) (acons (dcall (dds := []) (ok_law_take S) (hr.mono (by decide)) S.g_law_take S.F_law_take.kp S.b_law_take .nil (fun _ => .nil) tk (acons (dv 0) (acons di anil))) anil)))))))))))))
  · rw [ctFSend_eq] at h; obtain ⟨_, _, _, _, _, _, rfl, _⟩ := h; rfl
  · intro ss st ok ex h
    rw [ctFSend_eq] at h
    obtain ⟨pre, p, q, s, xs, st0, rfl, rfl, hx, k⟩ := h
    walk_at "zz"
    refine take_pre pre (by decide) (by decide) hx fun c s xs c0 c1 hx => ?_
    walk_at "w"
    obtain ⟨ch, hch, hcm, hcat⟩ := word_at2 famC_word c0 c1
    refine ⟨_, hcat, ?_⟩
    walk_at "zz"
    refine take_pre pre (by decide) (by decide) hx fun c s xs c0 c1 hx => ?_
    walk_at "w"
    obtain ⟨sh, hsh, hsm, hsat⟩ := word_at2 fam_word c0 c1
    refine ⟨_, hsat, ?_⟩
    walk_at "zz"
    refine take_pre pre (by decide) (by decide) hx fun c s xs c0 c1 hx => ?_
    walk_at "w"
    obtain ⟨bm, hbm, hbat⟩ := num_at [40, 150] c0 c1
    refine ⟨_, hbat, ?_⟩
    have hbm2 : bm = 40 ∨ bm = 150 := by simpa using hbm
    walk_at "w"
    refine take_pre pre (by omega) (by omega) hx fun bg s xs bg0 bg1 hx => ?_
    walk_at "zz"
    refine take_pre pre (by decide) (by decide) hx fun c s xs c0 c1 hx => ?_
    walk_at "w"
    obtain ⟨lm, hlm, hlat⟩ := num_at [10, 50] c0 c1
    refine ⟨_, hlat, ?_⟩
    have hlm2 : lm = 10 ∨ lm = 50 := by simpa using hlm
    walk_at "w"
    refine take_pre pre (by omega) (by omega) hx fun le s xs le0 le1 hx => ?_
    walk_at "w"
    refine take_pre pre (by decide) (by decide) hx fun ep s xs ep0 ep1 hx => ?_
    walk_at "w"
    refine take_pre pre (by decide) (by decide) hx fun la s xs la0 la1 hx => ?_
    walk_at "w"
    intro pa hpa
    have hok : SOk ⟨ch, sh, 1 + ep, bg, bg + (1 + le), la⟩ := by
      refine ⟨hch, hsh, ?_, ?_, ?_, ?_, ?_, ?_, ?_, ?_⟩ <;> dsimp only <;> omega
    refine ⟨pa, _, _, _, _, _, _, _, rfl, rfl, word_len hch, word_len hsh, trivial, trivial, trivial, trivial, fun z hz => (by have := (sok_none hok).symm.trans hz; cases this), fun _ => ?_⟩
    refine ⟨rfl, _, _, _, rfl, .cons (.cons (.cons (.cons (.cons (.cons .nil))))), ?_⟩
    walk_at "f"
    exact k ⟨ch, sh, 1 + ep, bg, bg + (1 + le), la⟩ s xs hok ⟨hsm, hcm, by dsimp only; omega, by dsimp only; omega, by dsimp only; omega, by dsimp only; omega⟩ hx
theorem ok_law_listing (S : En K mg) : FnOk P w K mg base (L2.CX P w) 6 S.f_law_listing S.d_law_listing ["_law_box", "_law_most_here"] (lowF K (ctFListing ⟨S.C_Book, S.C_Rule, S.C_Listing, S.C_Sending⟩)) := by
  refine fn_low _ S.F_law_listing sc_law_listing (fun ss st ok ex h => ?_) ?_ (fun cdv A outer s H E hr tk po => (bcons (spar 2 3 sc_law_listing.nd (acons (dlstO (acons ds (acons ds (acons ds (acons ds (acons ds (acons ds (acons ds (acons ds (acons ds (acons ds anil))))))))))) (acons ddnew anil)))
  (bcons (sfor po (iR S.n_range (acons (dcall (dds := []) (ok_law_take S) (hr.mono (by decide)) S.g_law_take S.F_law_take.kp S.b_law_take .nil (fun _ => .nil) tk (acons (dv 0) (acons (dop op_add lr_add (dv 1) di) anil))) anil)) (gname 4 sc_law_listing.nd)
   (bone (sdput (hu1 hr) (dcall (dds := []) (ok_law_sending S) (hr.mono (by decide)) S.g_law_sending S.F_law_sending.kp S.b_law_sending .nil (fun _ => .nil) tk (acons (dv 0) anil)) (dv 3) (dpopAt (dv 2) (dcall (dds := []) (ok_law_take S) (hr.mono (by decide)) S.g_law_take S.F_law_take.kp S.b_law_take .nil (fun _ => .nil) tk (acons (dv 0) (acons (dcb call_len_seq lc_lenL S.n_len PySem.boot_len (acons (dv 2) anil)) anil)))))))
  (bone (sret (dmake (dds := []) S.mk_Listing (ok_Listing_init S) (hr.mono (by decide)) S.g_Listing S.b_Listing_init .nil (fun _ => .nil) tk (acons (dpub (dv 3)) anil)))))))
  · rw [ctFListing_eq] at h; obtain ⟨_, _, _, _, _, _, _, rfl, _⟩ := h; rfl
  · intro ss st ok ex h
    rw [ctFListing_eq] at h
    obtain ⟨pre, p, q, s, xs, st0, m, rfl, rfl, hx, m0, m1, k⟩ := h
    walk_at "w"
    refine ⟨by show 10 ≤ sizeLine; rw [sizeLine_eq]; decide, ?_⟩
    walk_at "w"
    intro nm hnm
    walk_at "w"
    intro d hd
    walk_at "w"
    refine take_pre ((d, Ob.dic []) :: (nm, Ob.lst (famN.map strS)) :: pre) (by omega) (by omega) hx fun cnt s xs c0 c1 hx => ?_
    walk_at "w"
    refine ⟨by omega, by omega, ?_⟩
    walk_at "w"
    refine loop_fold (List.range cnt.toNat) (fun i => .int (0 + (i : Int))) (fun c _ => c + 1) 0 (fun c Δ' st' => ∃ (v4 : Sv) (s : Int) (xs : List Int) (ns : List Str) (l : Lst), Δ' = [.own p, dI m, .own nm, .own d, v4] ∧ st' = (d, .dic (l.map fun x => ((Sum.inr x.1 : Key), Sv.dat (x.2.d S.C_Sending)))) :: (nm, Ob.lst (ns.map strS)) :: pre ++ (p, obB q s) :: (q, obX xs) :: st0 ∧ xs.length ≤ 63 ∧ l.length = c ∧ (ns ++ l.map (·.1)).Perm famN ∧ ∀ x ∈ l, SOk x.2 ∧ FamS x.2) (by unfold rngS; simp) ⟨_, s, xs, famN, [], rfl, rfl, hx, rfl, by simp, fun x h => (by cases h)⟩ ?_ ?_
    · rintro pre2 kk post c Δ' st' has hc ⟨v4, s, xs, ns, l, rfl, rfl, hx, hlc, hpm, hok⟩
      have hcl : c ≤ 9 := by
        rw [count_fold] at hc
        have := congrArg List.length has
        rw [List.length_range, List.length_append, List.length_cons] at this
        omega
      have hlen := hpm.length_eq
      rw [List.length_append, List.length_map] at hlen
      have h10 : famN.length = 10 := rfl
      walk_at "w"
      rw [ctFSend_eq]
      refine ⟨(d, .dic (l.map fun x => ((Sum.inr x.1 : Key), Sv.dat (x.2.d S.C_Sending)))) :: (nm, Ob.lst (ns.map strS)) :: pre, p, q, s, xs, st0, rfl, rfl, hx, fun y s xs hy1 hy2 hx => ?_⟩
      walk_at "w"
      refine ⟨⟨1, _, rfl⟩, ?_⟩
      walk_at "w"
      refine ⟨1, _, rfl, ?_⟩
      walk_at "w"
      rw [show ((List.map strS ns).length : Int) = (ns.length : Int) from by rw [List.length_map]]
      refine take_pre (lim := (ns.length : Int)) ((d, .dic (l.map fun x => ((Sum.inr x.1 : Key), Sv.dat (x.2.d S.C_Sending)))) :: (nm, Ob.lst (ns.map strS)) :: pre) (by omega) (by omega) hx fun i s xs i0 i1 hx => ?_
      have hi : i.toNat < ns.length := by omega
      obtain ⟨n, hn⟩ : ∃ n, n = ns[i.toNat] := ⟨_, rfl⟩
      have hnat : ns[i.toNat]? = some n := by rw [hn]; exact List.getElem?_eq_getElem hi
      have hnm2 : n ∈ ns := List.mem_of_getElem? hnat
      have hnd : (ns ++ l.map (·.1)).Nodup := hpm.nodup_iff.mpr famN_nd
      have hnl : n ∉ l.map (·.1) := fun z => (List.nodup_append.mp hnd).2.2 n hnm2 n z rfl
      walk_at "w"
      refine ⟨1, ns.map strS, i.toNat, strS n, rfl, by omega, by omega, by rw [List.length_map]; exact seq_at i0 i1, by rw [List.getElem?_map, hnat]; rfl, ?_⟩
      walk_at "w"
      refine ⟨0, _, .inr n, rfl, rfl, by rw [List.length_map, sizeLine_eq]; omega, ?_⟩
      walk_at "w"
      rw [putD_new (by rw [List.map_map]; intro z; obtain ⟨y, hy, e1⟩ := List.mem_map.mp z; exact hnl (List.mem_map.mpr ⟨y, hy, Sum.inr.inj e1⟩))]
      refine ⟨_, s, xs, ns.eraseIdx i.toNat, l ++ [(n, y)], rfl, ?_, hx, by rw [List.length_append, hlc]; rfl, ?_, fun z hz => ?_⟩
      · rw [List.map_append, erase_mapL]
        rfl
      · rw [List.map_append]
        refine List.Perm.trans ?_ hpm
        have e1 : ns.Perm (n :: ns.eraseIdx i.toNat) := erase_permL hnat
        refine List.Perm.trans ?_ (List.Perm.append_right _ e1.symm)
        show (ns.eraseIdx i.toNat ++ (l.map (·.1) ++ [n])).Perm (n :: (ns.eraseIdx i.toNat ++ l.map (·.1)))
        rw [← List.append_assoc]
        exact List.perm_append_singleton _ _
      · rcases List.mem_append.mp hz with hz | hz
        · exact hok z hz
        · rw [List.mem_singleton.mp hz]
          exact ⟨hy1, hy2⟩
    · rintro Δ' st' ⟨v4, s, xs, ns, l, rfl, rfl, hx, hlc, hpm, hok⟩
      rw [count_fold, List.length_range] at hlc
      have hlen := hpm.length_eq
      rw [List.length_append, List.length_map] at hlen
      have h10 : famN.length = 10 := rfl
      have hnd := (List.nodup_append.mp (hpm.nodup_iff.mpr famN_nd)).2.1
      have hmem : ∀ x ∈ l, x.1 ∈ famN := fun x hx => hpm.mem_iff.mp (List.mem_append_right _ (List.mem_map.mpr ⟨x, hx, rfl⟩))
      have hwd : ∀ x ∈ l, isWord x.1 = true := fun x hx => famN_word _ (hmem x hx)
      walk_at "w"
      refine ⟨.dat (dicD (Snd.d S.C_Sending) l), _, .pub (j := 0) rfl (.dic ?_) (fun z => hd (by simpa [keys] using z)) (.cons _ (List.Sublist.refl _)), ?_⟩
      · have := allK_map (l.map fun x => ((Sum.inr x.1 : Key), x.2.d S.C_Sending))
        rw [List.map_map] at this
        exact this
      walk_at "w"
      intro pl hpl
      rw [ctListingU_eq]
      refine ⟨pl, _, l, rfl, rfl, by omega, hnd, hwd, ?_⟩
      refine ⟨rfl, _, _, _, rfl, .cons .nil, ?_⟩
      walk_at "w"
      refine ⟨_, _, .keep (.cons _ (List.Sublist.refl _)), ?_⟩
      exact k (sortL l) s xs (sortL_ok (by omega) hnd fun x hx => ⟨hwd x hx, (hok x hx).1⟩) (fun x hx => ⟨hmem x (sortL_mem hx), (hok x (sortL_mem hx)).2⟩) (by rw [sortL_len]; omega) hx
theorem ok_law_rule (S : En K mg) : FnOk P w K mg base (L2.CX P w) 5 S.f_law_rule S.d_law_rule ["_law_box"] (lowF K (ctFRule ⟨S.C_Book, S.C_Rule, S.C_Listing, S.C_Sending⟩)) := by
  refine fn_low _ S.F_law_rule sc_law_rule (fun ss st ok ex h => ?_) ?_ (fun cdv A outer s H E hr tk po => (bcons (spar 1 2 sc_law_rule.nd (acons (dix ix_list lr_ixL (dlst (acons ds (acons ds (acons ds anil)))) (dcall (dds := []) (ok_law_take S) (hr.mono (by decide)) S.g_law_take S.F_law_take.kp S.b_law_take .nil (fun _ => .nil) tk (acons (dv 0) (acons di anil)))) (acons (dop op_add lr_add di (dcall (dds := []) (ok_law_take S) (hr.mono (by decide)) S.g_law_take S.F_law_take.kp S.b_law_take .nil (fun _ => .nil) tk (acons (dv 0) (acons di anil)))) anil)))
  (bcons (ssetLc 3 [("_law_turn", 4)] sc_law_rule.nd (iR S.n_range (acons di anil)) (blkOk_by (N := ["_law_box", "_law_show", "_law_first", "_law_padding", "_law_turn"]) (sc := defScope s_law_rule) (by decide +kernel)) (fun _ _ _ _ _ => (gwname 4 sc_law_rule.nd)) (fun _ _ _ _ _ => tsnil) (fun _ _ _ _ _ => (dcall (dds := []) (ok_law_take S) (hr.mono (by decide)) S.g_law_take S.F_law_take.kp S.b_law_take .nil (fun _ => .nil) takes0 (acons (dv 0) (acons (dix ix_list lr_ixL (dlst (acons di (acons di anil))) (dcall (dds := []) (ok_law_take S) (hr.mono (by decide)) S.g_law_take S.F_law_take.kp S.b_law_take .nil (fun _ => .nil) takes0 (acons (dv 0) (acons di anil)))) anil)))))
  (bone (sret (dmake (dds := []) S.mk_Rule (ok_Rule_init S) (hr.mono (by decide)) S.g_Rule S.b7_Rule_init S.v7_Rule_init (fun _ => .nil) tk (acons (dv 1) (acons (dv 2) (acons (dop op_add lr_add (dv 2) (dcall (dds := []) (ok_law_take S) (hr.mono (by decide)) S.g_law_take S.F_law_take.kp S.b_law_take .nil (fun _ => .nil) tk (acons (dv 0) (acons di anil)))) (acons (dop op_add lr_add di (dcall (dds := []) (ok_law_take S) (hr.mono (by decide)) S.g_law_take S.F_law_take.kp S.b_law_take .nil (fun _ => .nil) tk (acons (dv 0) (acons di anil)))) (acons (dix ix_list lr_ixL (dv 3) di) (acons (dix ix_list lr_ixL (dv 3) di) anil))))))))))))
  · rw [ctFRule_eq] at h; obtain ⟨_, _, _, _, _, _, rfl, _⟩ := h; rfl
  · intro ss st ok ex h
    rw [ctFRule_eq] at h
    obtain ⟨pre, p, q, s, xs, st0, rfl, rfl, hx, k⟩ := h
    walk_at "zz"
    refine take_pre pre (by decide) (by decide) hx fun c s xs c0 c1 hx => ?_
    walk_at "w"
    obtain ⟨sh, hsh, hsm, hsat⟩ := word_at2 fam_word c0 c1
    refine ⟨_, hsat, ?_⟩
    walk_at "zz"
    refine take_pre pre (by decide) (by decide) hx fun fi s xs fi0 fi1 hx => ?_
    walk_at "w"
    refine ⟨by decide, by decide, ?_⟩
    walk_at "w"
    refine lc_state (List.range 2) (fun i => .int (0 + (i : Int))) (fun c ds st' => ∃ (zs : List Int) (s : Int) (xs : List Int), ds = zs.map Dt.int ∧ zs.length = c ∧ (∀ z ∈ zs, 0 ≤ z ∧ z ≤ 11) ∧ st' = pre ++ (p, obB q s) :: (q, obX xs) :: st0 ∧ xs.length ≤ 63) rfl ⟨[], s, xs, rfl, rfl, (fun z h => by cases h), rfl, hx⟩ ?_ ?_
    · rintro c kk D ds st' hi hD ⟨zs, s, xs, rfl, hzl, hzb, rfl, hx⟩
      walk_at "ss"
      walk_at "yy"
      refine take_pre ((D, Ob.lst (List.map Sv.dat (List.map Dt.int zs))) :: pre) (by decide) (by decide) hx fun a s xs a0 a1 hx => ?_
      walk_at "w"
      obtain ⟨am, ham, haat⟩ := num_at [1, 12] a0 a1
      refine ⟨_, haat, ?_⟩
      have ham2 : am = 1 ∨ am = 12 := by simpa using ham
      walk_at "w"
      refine take_pre ((D, Ob.lst (List.map Sv.dat (List.map Dt.int zs))) :: pre) (by omega) (by omega) hx fun z s xs z0 z1 hx => ?_
      have hc2 : c < 2 := by have := (List.getElem?_eq_some_iff.mp hi).1; rwa [List.length_range] at this
      refine lcr_yes (by rw [List.length_map, sizeLine_eq]; omega) ⟨zs ++ [z], s, xs, by rw [List.map_append]; rfl, by rw [List.length_append, hzl]; rfl, fun y hy => ?_, rfl, hx⟩
      rcases List.mem_append.mp hy with hy | hy
      · exact hzb y hy
      · rw [List.mem_singleton.mp hy]
        omega
    · rintro ds st' ⟨zs, s, xs, rfl, hzl, hzb, rfl, hx⟩
      rw [List.length_range] at hzl
      match zs, hzl with
      | [be, af], _ =>
        obtain ⟨be0, be1⟩ := hzb be (by simp)
        obtain ⟨af0, af1⟩ := hzb af (by simp)
        walk_at "w"
        refine take_pre pre (by decide) (by decide) hx fun le s xs le0 le1 hx => ?_
        walk_at "w"
        refine take_pre pre (by decide) (by decide) hx fun pr s xs pr0 pr1 hx => ?_
        walk_at "w"
        refine ⟨dI be, atI_get (by decide) rfl, ?_⟩
        walk_at "w"
        refine ⟨dI af, atI_get (by decide) rfl, ?_⟩
        walk_at "w"
        intro pa hpa
        have hok : ROk ⟨sh, 1 + fi, 1 + fi + le, 1 + pr, be, af⟩ := by
          refine ⟨hsh, ?_, ?_, ?_, ?_, ?_, ?_, ?_, ?_, ?_⟩ <;> dsimp only <;> omega
        refine ⟨pa, _, _, _, _, _, _, _, rfl, rfl, word_len hsh, trivial, trivial, trivial, trivial, trivial, fun z hz => (by have := (rok_none hok).symm.trans hz; cases this), fun _ => ?_⟩
        refine ⟨rfl, _, _, _, rfl, .cons (.cons (.cons (.cons (.cons (.cons .nil))))), ?_⟩
        walk_at "f"
        exact k ⟨sh, 1 + fi, 1 + fi + le, 1 + pr, be, af⟩ s xs hok ⟨hsm, by dsimp only; omega, by dsimp only; omega, by dsimp only; omega, by dsimp only; omega, by dsimp only; omega⟩ hx
theorem ok_law_wishes_of (S : En K mg) : FnOk P w K mg base (L2.CX P w) 6 S.f_law_wishes_of S.d_law_wishes_of ["_law_box", "_law_most_here"] (lowF K (ctFBook ⟨S.C_Book, S.C_Rule, S.C_Listing, S.C_Sending⟩)) := by
  refine fn_low _ S.F_law_wishes_of sc_law_wishes_of (fun ss st ok ex h => ?_) ?_ (fun cdv A outer s H E hr tk po => (bcons (sset 2 sc_law_wishes_of.nd (dct call_tuple_of lc_tup S.n_tuple PyProof.Rows.boot_tuple (acons (dlc [("_law_turn", 3)] sc_law_wishes_of.nd (iR S.n_range (acons (dcall (dds := []) (ok_law_take S) (hr.mono (by decide)) S.g_law_take S.F_law_take.kp S.b_law_take .nil (fun _ => .nil) tk (acons (dv 0) (acons (dop op_add lr_add (dv 1) di) anil))) anil)) (blkOk_by (N := ["_law_box", "_law_most_here", "_law_rules", "_law_turn", "_law_seen"]) (sc := defScope s_law_wishes_of) (by decide +kernel)) (fun _ _ _ _ _ => (gwname 3 sc_law_wishes_of.nd)) (fun _ _ _ _ _ => tsnil) (fun _ _ _ _ _ => (dcall (dds := []) (ok_law_rule S) (hr.mono (by decide)) S.g_law_rule S.F_law_rule.kp S.b_law_rule .nil (fun _ => .nil) takes0 (acons (dv 0) anil)))) anil)))
  (bcons (ssetLc 4 [("_law_turn", 3)] sc_law_wishes_of.nd (iR S.n_range (acons (dcall (dds := []) (ok_law_take S) (hr.mono (by decide)) S.g_law_take S.F_law_take.kp S.b_law_take .nil (fun _ => .nil) tk (acons (dv 0) (acons di anil))) anil)) (blkOk_by (N := ["_law_box", "_law_most_here", "_law_rules", "_law_turn", "_law_seen"]) (sc := defScope s_law_wishes_of) (by decide +kernel)) (fun _ _ _ _ _ => (gwname 3 sc_law_wishes_of.nd)) (fun _ _ _ _ _ => tsnil) (fun _ _ _ _ _ => (dtup (acons (dix ix_list lr_ixL (dlst (acons ds (acons ds (acons ds anil)))) (dcall (dds := []) (ok_law_take S) (hr.mono (by decide)) S.g_law_take S.F_law_take.kp S.b_law_take .nil (fun _ => .nil) takes0 (acons (dv 0) (acons di anil)))) (acons (dop op_add lr_add di (dcall (dds := []) (ok_law_take S) (hr.mono (by decide)) S.g_law_take S.F_law_take.kp S.b_law_take .nil (fun _ => .nil) takes0 (acons (dv 0) (acons di anil)))) anil)))))
  (bone (sret (dmake (dds := []) S.mk_Book (ok_Book_init S) (hr.mono (by decide)) S.g_Book S.b3_Book_init S.v3_Book_init (fun _ => .nil) tk (acons (dv 2) (acons (difx (tcmp op_eq lr_eqS (dcall (dds := []) (ok_law_take S) (hr.mono (by decide)) S.g_law_take S.F_law_take.kp S.b_law_take .nil (fun _ => .nil) tk (acons (dv 0) (acons di anil))) di (nomark _)) (dct call_tuple_of lc_tup S.n_tuple PyProof.Rows.boot_tuple (acons (dv 4) anil)) (dtup anil)) anil))))))))
  · rw [ctFBook_eq] at h; obtain ⟨_, _, _, _, _, _, _, rfl, _⟩ := h; rfl
  · intro ss st ok ex h
    rw [ctFBook_eq] at h
    obtain ⟨pre, p, q, s, xs, st0, m, rfl, rfl, hx, m0, m1, k⟩ := h
    walk_at "w"
    refine take_pre pre (by omega) (by omega) hx fun cnt s xs c0 c1 hx => ?_
    walk_at "w"
    refine ⟨by omega, by omega, ?_⟩
    walk_at "w"
    refine lc_state (List.range cnt.toNat) (fun i => .int (0 + (i : Int))) (fun c ds st' => ∃ (rs : List Rul) (s : Int) (xs : List Int), ds = rs.map (Rul.d S.C_Rule) ∧ rs.length = c ∧ (∀ r ∈ rs, ROk r ∧ FamR r) ∧ st' = pre ++ (p, obB q s) :: (q, obX xs) :: st0 ∧ xs.length ≤ 63) (by unfold rngS; simp) ⟨[], s, xs, rfl, rfl, (fun z h => by cases h), rfl, hx⟩ ?_ ?_
    · rintro c kk D ds st' hi hD ⟨rs, s, xs, rfl, hrl, hrb, rfl, hx⟩
      have hcl : c < cnt.toNat := by have := (List.getElem?_eq_some_iff.mp hi).1; rwa [List.length_range] at this
      walk_at "ss"
      walk_at "w"
      rw [ctFRule_eq]
      refine ⟨(D, Ob.lst (List.map Sv.dat (List.map (Rul.d S.C_Rule) rs))) :: pre, p, q, s, xs, st0, rfl, rfl, hx, fun r s xs hr1 hr2 hx => ?_⟩
      refine lcr_yes (by rw [List.length_map, sizeLine_eq]; omega) ⟨rs ++ [r], s, xs, by rw [List.map_append]; rfl, by rw [List.length_append, hrl]; rfl, fun y hy => ?_, rfl, hx⟩
      rcases List.mem_append.mp hy with hy | hy
      · exact hrb y hy
      · rw [List.mem_singleton.mp hy]
        exact ⟨hr1, hr2⟩
    · rintro ds st' ⟨rs, s, xs, rfl, hrl, hrb, rfl, hx⟩
      rw [List.length_range] at hrl
      walk_at "w"
      refine take_pre pre (by decide) (by decide) hx fun cn2 s xs c0 c1 hx => ?_
      walk_at "w"
      refine ⟨by omega, by omega, ?_⟩
      walk_at "w"
      refine lc_state (List.range cn2.toNat) (fun i => .int (0 + (i : Int))) (fun c ds st' => ∃ (es : List Ep) (s : Int) (xs : List Int), ds = es.map epD ∧ es.length = c ∧ (∀ e ∈ es, isWord e.1 = true ∧ e.1 ∈ famW ∧ e.2 ≤ 3) ∧ st' = pre ++ (p, obB q s) :: (q, obX xs) :: st0 ∧ xs.length ≤ 63) (by unfold rngS; simp) ⟨[], s, xs, rfl, rfl, (fun z h => by cases h), rfl, hx⟩ ?_ ?_
      · rintro c kk D ds st' hi hD ⟨es, s, xs, rfl, hel, heb, rfl, hx⟩
        have hcl : c < cn2.toNat := by have := (List.getElem?_eq_some_iff.mp hi).1; rwa [List.length_range] at this
        walk_at "ss"
        walk_at "yy"
        refine take_pre ((D, Ob.lst (List.map Sv.dat (List.map epD es))) :: pre) (by decide) (by decide) hx fun a s xs a0 a1 hx => ?_
        walk_at "w"
        obtain ⟨z, hz, hzm, hat⟩ := word_at2 fam_word a0 a1
        refine ⟨_, hat, ?_⟩
        walk_at "w"
        refine take_pre ((D, Ob.lst (List.map Sv.dat (List.map epD es))) :: pre) (by decide) (by decide) hx fun ep s xs ep0 ep1 hx => ?_
        walk_at "zz"
        refine lcr_yes (by rw [List.length_map, sizeLine_eq]; omega) ⟨es ++ [(z, 1 + ep)], s, xs, by rw [List.map_append]; rfl, by rw [List.length_append, hel]; rfl, fun y hy => ?_, rfl, hx⟩
        rcases List.mem_append.mp hy with hy | hy
        · exact heb y hy
        · rw [List.mem_singleton.mp hy]
          exact ⟨hz, hzm, by dsimp only; omega⟩
      · rintro ds st' ⟨es, s, xs, rfl, hel, heb, rfl, hx⟩
        rw [List.length_range] at hel
        walk_at "w"
        refine take_pre pre (by decide) (by decide) hx fun co s xs co0 co1 hx => ?_
        walk_at "w"
        have hrs : rs.length ≤ 6 := by omega
        refine ⟨fun c => ?_, fun c => ?_⟩
        · walk_at "w"
          intro pb hpb
          rw [ctBook_eq]
          refine ⟨pb, _, rs, es, rfl, rfl, hrs, rfl, _, _, _, rfl, .cons (.cons .nil), ?_⟩
          walk_at "f"
          exact k ⟨rs, es⟩ s xs ⟨hrs, fun r hr => (hrb r hr).1, by show es.length ≤ 63; omega, fun e he => (heb e he).1⟩ (fun r hr => (hrb r hr).2) (by show rs.length ≤ m.toNat; omega) (by show es.length ≤ 2; omega) (fun e he => (heb e he).2) hx
        · walk_at "zz"
          intro pb hpb
          rw [ctBook_eq]
          refine ⟨pb, _, rs, [], rfl, rfl, hrs, rfl, _, _, _, rfl, .cons (.cons .nil), ?_⟩
          walk_at "f"
          exact k ⟨rs, []⟩ s xs ⟨hrs, fun r hr => (hrb r hr).1, by show 0 ≤ 63; omega, fun e he => (by cases he)⟩ (fun r hr => (hrb r hr).2) (by show rs.length ≤ m.toNat; omega) (by show 0 ≤ 2; omega) (fun e he => (by cases he)) hx
theorem ok_law_rule_of (S : En K mg) : FnOk P w K mg base (L2.CX P w) 3 S.f_law_rule_of S.d_law_rule_of ["_law_book", "_law_sending_here"] (lowF K (ctRuleFor ⟨S.C_Book, S.C_Rule, S.C_Listing, S.C_Sending⟩)) := by
  refine fn_low _ S.F_law_rule_of sc_law_rule_of (fun ss st ok ex h => ?_) ?_ (fun cdv A outer s H E hr tk po => (bcons (sif (tsIn hr (dtup (acons (dprop S.cl_Sending S.p_Sending_show (ok_Sending_show S) (hr.mono (by decide)) S.b_Sending_show (dv 1)) (acons (dprop S.cl_Sending S.p_Sending_episode (ok_Sending_episode S) (hr.mono (by decide)) S.b_Sending_episode (dv 1)) anil))) (dprop S.cl_Book S.p_Book_seen (ok_Book_seen S) (hr.mono (by decide)) S.b_Book_seen (dv 0)))
   (bone (sret dn)) bnil)
  (bcons (sfor po (iT (dprop S.cl_Book S.p_Book_rules (ok_Book_rules S) (hr.mono (by decide)) S.b_Book_rules (dv 0))) (gname 2 sc_law_rule_of.nd)
   (bone (sif (tw (wand (tcmp op_eq lr_eqS (dprop S.cl_Rule S.p_Rule_show (ok_Rule_show S) (hr.mono (by decide)) S.b_Rule_show (dv 2)) (dprop S.cl_Sending S.p_Sending_show (ok_Sending_show S) (hr.mono (by decide)) S.b_Sending_show (dv 1)) (nomark _)) (wand1 (tchain op_le op_le lr_le lr_le (dprop S.cl_Rule S.p_Rule_first (ok_Rule_first S) (hr.mono (by decide)) S.b_Rule_first (dv 2)) (dprop S.cl_Sending S.p_Sending_episode (ok_Sending_episode S) (hr.mono (by decide)) S.b_Sending_episode (dv 1)) (dprop S.cl_Rule S.p_Rule_last (ok_Rule_last S) (hr.mono (by decide)) S.b_Rule_last (dv 2))))))
   (bone (sret (dv 2))) bnil)))
  (bone (sret dn)))))
  · rw [ctRuleFor_eq] at h; obtain ⟨_, _, rfl, _⟩ := h; rfl
  · intro ss st ok ex h
    rw [ctRuleFor_eq] at h
    obtain ⟨b, x, rfl, hb, hx, k⟩ := h
    unfold ruleFor ruleOf at k
    walk_at "w"
    refine ⟨rfl, _, _, rfl, rfl, ?_⟩
    walk_at "w"
    refine ⟨rfl, _, _, rfl, rfl, ?_⟩
    walk_at "zz"
    refine ⟨rfl, _, _, rfl, rfl, ?_⟩
    walk_at "w"
    refine ⟨epP (x.show_, x.episode), b.seen.map epP, ep_of (x.show_, x.episode), eps_of _, ep_shaped (x.show_, x.episode) hx.sh, eps_lay _ hb.sok, ?_⟩
    rw [ep_any]
    refine ⟨fun h => ?_, fun h => ?_⟩
    · have h' := of_decide_eq_true h
      rw [if_pos h'] at k
      walk_at "f"
      exact k
    have h' := of_decide_eq_false h
    rw [if_neg h'] at k
    walk_at "w"
    refine ⟨rfl, _, _, rfl, rfl, ?_⟩
    walk_at "w"
    refine loop_find b.rules (Rul.d S.C_Rule) (fun r => decide (r.show_ = x.show_) && (decide (r.first ≤ x.episode) && decide (x.episode ≤ r.last))) (fun Δ st' => ∃ v, Δ = [.dat (b.d ⟨S.C_Book, S.C_Rule, S.C_Listing, S.C_Sending⟩), .dat (x.d S.C_Sending), v] ∧ st' = st) (by simp) ⟨_, rfl, rfl⟩ ?_ ?_
    · rintro i r Δ' st' hi J
      obtain ⟨v, rfl, rfl⟩ := J.r
      walk_at "w"
      refine ⟨rfl, _, _, rfl, rfl, ?_⟩
      walk_at "w"
      refine ⟨rfl, _, _, rfl, rfl, ?_⟩
      walk_at "w"
      refine ⟨fun e1 => ?_, fun e1 => ?_⟩
      · walk_at "w"
        refine ⟨rfl, _, _, rfl, rfl, ?_⟩
        walk_at "w"
        refine ⟨rfl, _, _, rfl, rfl, ?_⟩
        walk_at "w"
        refine ⟨fun e2 => ?_, fun e2 => ?_⟩
        · walk_at "w"
          refine ⟨rfl, _, _, rfl, rfl, ?_⟩
          walk_at "w"
          refine ⟨fun e3 => ?_, fun e3 => ?_⟩
          · walk_at "f"
            have hp : (decide (r.show_ = x.show_) && (decide (r.first ≤ x.episode) && decide (x.episode ≤ r.last))) = true := by
              rw [show decide (r.show_ = x.show_) = true from e1, show decide (r.first ≤ x.episode) = true from e2, show decide (x.episode ≤ r.last) = true from e3]; rfl
            rw [fj_yes hi J hp] at k
            exact k
          · walk_at "ss"
            exact fj_no hi J (by rw [show decide (x.episode ≤ r.last) = false from e3, Bool.and_false, Bool.and_false]) ⟨_, rfl, rfl⟩
        · walk_at "ss"
          exact fj_no hi J (by rw [show decide (r.first ≤ x.episode) = false from e2, Bool.false_and, Bool.and_false]) ⟨_, rfl, rfl⟩
      · walk_at "ss"
        exact fj_no hi J (by rw [show decide (r.show_ = x.show_) = false from e1, Bool.false_and]) ⟨_, rfl, rfl⟩
    · rintro Δ' st' ⟨v, rfl, rfl⟩ hn
      rw [hn] at k
      walk_at "f"
      exact k
theorem ok_law_windows (S : En K mg) : FnOk P w K mg base (L2.CX P w) 4 S.f_law_windows S.d_law_windows ["_law_book", "_law_listing_here"] (lowF K (ctWindows ⟨S.C_Book, S.C_Rule, S.C_Listing, S.C_Sending⟩)) := by
  refine fn_low _ S.F_law_windows sc_law_windows (fun ss st ok ex h => ?_) ?_ (fun cdv A outer s H E hr tk po => (bcons (sset 2 sc_law_windows.nd ddnew)
  (bcons (sfor po (iT (dprop S.cl_Listing S.p_Listing_names (ok_Listing_names S) (hr.mono (by decide)) S.b_Listing_names (dv 1))) (gname 3 sc_law_windows.nd)
   (bcons (spar 4 5 sc_law_windows.nd (acons (dcall (dds := []) (ok_law_rule_of S) (hr.mono (by decide)) S.g_law_rule_of S.F_law_rule_of.kp S.b_law_rule_of .nil (fun _ => .nil) tk (acons (dv 0) (acons (dget S.sg_Listing_getitem S.fi_Listing_getitem S.fn_Listing_getitem (ok_Listing_getitem S) (hr.mono (by decide)) S.b_Listing_getitem tk (dv 1) (dv 3)) anil))) (acons (dget S.sg_Listing_getitem S.fi_Listing_getitem S.fn_Listing_getitem (ok_Listing_getitem S) (hr.mono (by decide)) S.b_Listing_getitem tk (dv 1) (dv 3)) anil)))
  (bone (sif (tnotN (dv 4))
   (bone (sdput (hu1 hr) (dtup (acons (dcb (call_max2 rfl) lc_max2 S.n_max PyProof.Rows.boot_max (acons di (acons (dop op_sub lr_sub (dprop S.cl_Sending S.p_Sending_begin (ok_Sending_begin S) (hr.mono (by decide)) S.b_Sending_begin (dv 5)) (dprop S.cl_Rule S.p_Rule_before (ok_Rule_before S) (hr.mono (by decide)) S.b_Rule_before (dv 4))) anil))) (acons (dop op_add lr_add (dprop S.cl_Sending S.p_Sending_end (ok_Sending_end S) (hr.mono (by decide)) S.b_Sending_end (dv 5)) (dprop S.cl_Rule S.p_Rule_after (ok_Rule_after S) (hr.mono (by decide)) S.b_Rule_after (dv 4))) anil))) (dv 2) (dv 3))) bnil))))
  (bone (sret (dv 2))))))
  · exact bl_len (m := 0) (fun _ => rfl) h
  · intro ss st ok ex h
    unfold ctWindows at h
    rw [ctBL_eq] at h
    obtain ⟨b, l, _, rfl, hb, hl, _, k⟩ := h
    walk_at "w"
    intro d hd
    walk_at "w"
    rw [ctNames_eq]
    refine ⟨rfl, l, rfl, ?_⟩
    walk_at "w"
    refine loop_fold l (fun x => .str x.1) (wiAdd b) [] (fun ws Δ' st' => ∃ v3 v4 v5, Δ' = [.dat (b.d ⟨S.C_Book, S.C_Rule, S.C_Listing, S.C_Sending⟩), .dat (lstD ⟨S.C_Book, S.C_Rule, S.C_Listing, S.C_Sending⟩ l), .own d, v3, v4, v5] ∧ st' = (d, .dic (ws.map fun w => ((Sum.inr w.n : Key), Sv.dat (winD w.win)))) :: st) (by rw [List.map_map]; rfl) ⟨_, _, _, rfl, rfl⟩ ?_ ?_
    · rintro pre x post ws Δ' st' has hws ⟨v3, v4, v5, rfl, rfl⟩
      have hxl : x ∈ l := by rw [has]; simp
      have hok := (hl.ok x hxl).2
      walk_at "w"
      rw [ctItem_eq]
      refine ⟨rfl, l, x.1, x.2, rfl, hl.get hxl, ?_⟩
      walk_at "w"
      rw [ctRuleFor_eq]
      refine ⟨b, x.2, rfl, hb, hok, ?_⟩
      walk_at "w"
      rw [ctItem_eq]
      refine ⟨rfl, l, x.1, x.2, rfl, hl.get hxl, ?_⟩
      cases hr : ruleFor b x.2 with
      | none =>
        walk_at "ss"
        rw [wiAdd_none hr]
        exact ⟨_, _, _, rfl, rfl⟩
      | some r =>
        walk_at "ss"
        refine ⟨rfl, _, _, rfl, rfl, ?_⟩
        walk_at "w"
        refine ⟨rfl, _, _, rfl, rfl, ?_⟩
        walk_at "w"
        refine ⟨rfl, _, _, rfl, rfl, ?_⟩
        walk_at "w"
        refine ⟨rfl, _, _, rfl, rfl, ?_⟩
        walk_at "zz"
        rw [wiAdd_all b pre] at hws
        have hsub := wished_sub b pre
        have hnd := hl.nodup
        rw [has, List.map_append] at hnd
        have hlen : ws.length ≤ 10 := by
          have h1 := hsub.length_le
          rw [List.length_map, List.length_map, ← hws] at h1
          have h2 := congrArg List.length has
          rw [List.length_append] at h2
          have := hl.len
          omega
        refine ⟨0, _, .inr x.1, rfl, rfl, by rw [List.length_map, sizeLine_eq]; omega, ?_⟩
        walk_at "w"
        rw [putD_new (by
          rw [List.map_map]
          intro z
          obtain ⟨y, hy, e1⟩ := List.mem_map.mp z
          have e1 : y.n = x.1 := Sum.inr.inj e1
          have h3 : x.1 ∈ pre.map (·.1) := hsub.subset (by rw [← e1]; exact List.mem_map.mpr ⟨y, by rw [← hws]; exact hy, rfl⟩)
          exact (List.nodup_append.mp hnd).2.2 x.1 h3 x.1 List.mem_cons_self rfl)]
        refine ⟨_, _, _, rfl, ?_⟩
        rw [wiAdd_some hr, List.map_append]
        rfl
    · rintro Δ' st' ⟨v3, v4, v5, rfl, rfl⟩
      rw [wiAdd_all]
      walk_at "w"
      refine ⟨.dat (dicD winD (windows b l)), _, .pub (j := 0) rfl (.dic ?_) hd (.cons _ (List.Sublist.refl _)), k⟩
      have := allK_map ((windows b l).map fun x => ((Sum.inr x.1 : Key), winD x.2))
      unfold windows at this
      rw [List.map_map, List.map_map] at this
      unfold windows
      exact this
theorem ok_law_most (S : En K mg) : FnOk P w K mg base (L2.CX P w) 1 S.f_law_most S.d_law_most ["_law_windows_here", "_law_some"] (lowF K ctMost) := by
  refine fn_low _ S.F_law_most sc_law_most (fun ss st ok ex h => ?_) ?_ (fun cdv A outer s H E hr tk po => (bcons (ssetLc 2 [("_law_name", 4)] sc_law_most.nd (iT (dv 1)) (blkOk_by (N := ["_law_windows_here", "_law_some", "_law_counts", "_law_one", "_law_name"]) (sc := defScope s_law_most) (by decide +kernel)) (fun _ _ _ _ _ => (gwname 4 sc_law_most.nd)) (fun _ _ _ _ _ => tsnil) (fun _ _ _ _ _ => (dcb call_len_seq lc_lenL S.n_len PySem.boot_len (acons (dlc [("_law_one", 3)] sc_law_most.nd (iT (dv 1)) (blkOk_by (by rfl)) (fun _ _ _ _ _ => (gwname 3 sc_law_most.nd)) (fun _ _ _ _ _ => (tsone (tchain op_le op_lt lr_le lr_lt (dix ix_tup lr_ixT (ddget (hu1 hr) (dv 0) (dv 3)) di) (dix ix_tup lr_ixT (ddget (hu1 hr) (dv 0) (dv 4)) di) (dix ix_tup lr_ixT (ddget (hu1 hr) (dv 0) (dv 3)) di)))) (fun _ _ _ _ _ => (dv 3))) anil))))
  (bone (sret (difx (tcmp (op_neD (hu64 hr)) lr_neP (dv 2) (dlst anil) (nomark _)) (dcb (cr_maxP rfl (hu65 hr)) lc_bestP S.n_max PyProof.Rows.boot_max (acons (dv 2) anil)) di)))))
  · rw [ctMost_eq] at h; obtain ⟨_, _, rfl, _⟩ := h; rfl
  · intro ss st ok ex h
    rw [ctMost_eq] at h
    obtain ⟨ws, ns, rfl, hin, k⟩ := h
    have h10 := hin.len
    have hg : ∀ n ∈ ns, getD ((ws.map fun x => ((Sum.inr x.1 : Key), winD x.2)).map fun kv => (kv.1, Sv.dat kv.2)) (.inr n) = some (.dat (winD (winOf ws n))) := fun n hn => by
      obtain ⟨w, hw⟩ := hin.mem n hn
      rw [getD_dic winD ws n, show winOf ws n = w from by unfold winOf; rw [hw]; rfl, hw]
      rfl
    walk_at "w"
    refine lc_pure ns .str (fun n => some (.int ((openAt ws ns (winOf ws n).1).length : Int))) (by rw [List.map_map]; rfl) ?_ ?_
    · intro i n D acc hx hD J
      rw [show wipeD _ _ = ([.dat (dicD winD ws), .dat (nsD ns), .un, .un, .un] : List Sv) from rfl]
      walk_at "ss"
      refine lc_pure ns .str (fun z => if (decide ((winOf ws z).1 ≤ (winOf ws n).1) && decide ((winOf ws n).1 < (winOf ws z).2)) = true then some (.str z) else none) (by rw [List.map_map]; rfl) ?_ ?_
      · intro i2 z D2 acc2 hi hD2 J2
        rw [show wipeD _ _ = ([.dat (dicD winD ws), .dat (nsD ns), .un, .un, .dat (.str n)] : List Sv) from rfl]
        walk_at "ss"
        refine ⟨.inr z, _, rfl, hg z (List.mem_of_getElem? hi), ?_⟩
        walk_at "dd"
        walk_at "w"
        refine ⟨.inr n, _, rfl, hg n (List.mem_of_getElem? hx), ?_⟩
        walk_at "dd"
        walk_at "w"
        refine ⟨fun h1 => ?_, fun h1 => ?_⟩
        · walk_at "w"
          refine ⟨.inr z, _, rfl, hg z (List.mem_of_getElem? hi), ?_⟩
          walk_at "dd"
          walk_at "w"
          refine ⟨fun h2 => ?_, fun h2 => ?_⟩
          · walk_at "w"
            exact lc_yes (by rw [sizeLine_eq]; omega) hi J2 (if_pos (by rw [h1, h2]; rfl))
          · walk_at "w"
            exact lc_no hi J2 (if_neg (by rw [h2, Bool.and_false]; decide))
        · walk_at "ss"
          exact lc_no hi J2 (if_neg (by rw [h1, Bool.false_and]; decide))
      rw [fm_if]
      walk_at "w"
      exact lc_yes (by rw [sizeLine_eq]; omega) hx J (by rw [List.length_map, List.length_map]; rfl)
    · rw [fm_some]
      walk_at "w"
      refine ⟨Nat.zero_le _, ?_⟩
      walk_at "w"
      obtain ⟨cs, hcs⟩ : ∃ cs : List Int, cs = ns.map fun n => ((openAt ws ns (winOf ws n).1).length : Int) := ⟨_, rfl⟩
      have hm : mostAt ws ns = maxOr 0 cs := by rw [hcs]; rfl
      rw [show (ns.map fun n => Dt.int ((openAt ws ns (winOf ws n).1).length : Int)) = cs.map Dt.int from by rw [hcs, List.map_map]; rfl]
      refine ⟨.list (cs.map .int), .list [], .lst (ints_ofs cs), .lst .nil, ints_shaped cs, nil_shaped, ?_⟩
      rw [hm] at k
      cases cs with
      | nil =>
        walk_at "ss"
        exact ⟨_, _, .keep (List.Sublist.refl _), k⟩
      | cons c cs =>
        walk_at "w"
        refine ⟨fun _ => ?_, fun h => absurd h (by simp [PyData.eqv, PyData.eqvAll])⟩
        walk_at "w"
        refine ⟨Int, c, cs, .int, .int, by rw [List.map_map]; rfl, fun i => .int i, ints_alike _, Nat.le_trans (Nat.le_of_eq (PySem.W.depth_ints _)) (by decide), fun z hr hz => ?_⟩
        rw [PySem.W.maxD_ints] at hz
        have hz : z = cs.foldl max c := by cases hz; rfl
        walk_at "f"
        rw [hz]
        exact k
theorem ok_law_choices (S : En K mg) : FnOk P w K mg base (L2.CX P w) 3 S.f_law_choices S.d_law_choices ["_law_windows_here", "_law_listing_here", "_law_receivers"] (lowF K (ctFChoices ⟨S.C_Book, S.C_Rule, S.C_Listing, S.C_Sending⟩)) := by
  refine fn_low _ S.F_law_choices sc_law_choices (fun ss st ok ex h => ?_) ?_ (fun cdv A outer s H E hr tk po => (bcons (sset 3 sc_law_choices.nd (dlst (acons (dtup anil) anil)))
  (bcons (sfor po (iL (dcb (call_sortedD rfl) lc_sortK S.n_sorted PyProof.Rows.boot_sorted (acons (dv 0) anil))) (gname 4 sc_law_choices.nd)
   (bcons (sset 5 sc_law_choices.nd (dlstO anil))
  (bcons (sfor po (iL (dv 3)) (gname 6 sc_law_choices.nd)
   (bcons (ssetLc 7 [("_law_one", 8)] sc_law_choices.nd (iT (dv 6)) (blkOk_by (N := ["_law_windows_here", "_law_listing_here", "_law_receivers", "_law_found", "_law_name", "_law_more", "_law_some", "_law_episodes", "_law_one"]) (sc := defScope s_law_choices) (by decide +kernel)) (fun _ _ _ _ _ => (gwname 8 sc_law_choices.nd)) (fun _ _ _ _ _ => tsnil) (fun _ _ _ _ _ => (dtup (acons (dprop S.cl_Sending S.p_Sending_show (ok_Sending_show S) (hr.mono (by decide)) S.b_Sending_show (dget S.sg_Listing_getitem S.fi_Listing_getitem S.fn_Listing_getitem (ok_Listing_getitem S) (hr.mono (by decide)) S.b_Listing_getitem takes0 (dv 1) (dv 8))) (acons (dprop S.cl_Sending S.p_Sending_episode (ok_Sending_episode S) (hr.mono (by decide)) S.b_Sending_episode (dget S.sg_Listing_getitem S.fi_Listing_getitem S.fn_Listing_getitem (ok_Listing_getitem S) (hr.mono (by decide)) S.b_Listing_getitem takes0 (dv 1) (dv 8))) anil)))))
  (bone (sif (tsNi hr (dtup (acons (dprop S.cl_Sending S.p_Sending_show (ok_Sending_show S) (hr.mono (by decide)) S.b_Sending_show (dget S.sg_Listing_getitem S.fi_Listing_getitem S.fn_Listing_getitem (ok_Listing_getitem S) (hr.mono (by decide)) S.b_Listing_getitem tk (dv 1) (dv 4))) (acons (dprop S.cl_Sending S.p_Sending_episode (ok_Sending_episode S) (hr.mono (by decide)) S.b_Sending_episode (dget S.sg_Listing_getitem S.fi_Listing_getitem S.fn_Listing_getitem (ok_Listing_getitem S) (hr.mono (by decide)) S.b_Listing_getitem tk (dv 1) (dv 4))) anil))) (dv 7))
   (bone (sapp (dv 5) (dop op_catA lr_catU (dv 6) (dtup (acons (dv 4) anil))))) bnil))))
  (bone (sset 3 sc_law_choices.nd (dop op_cat lr_cat (dv 3) (dlcO [("_law_some", 6)] sc_law_choices.nd (dv 5) (blkOk_by (N := ["_law_windows_here", "_law_listing_here", "_law_receivers", "_law_found", "_law_name", "_law_more", "_law_some", "_law_episodes", "_law_one"]) (sc := defScope s_law_choices) (by decide +kernel)) (fun _ _ _ _ _ => (gwname 6 sc_law_choices.nd)) (fun _ _ _ _ _ => (tsone (tcmp op_le lr_le (dcall (dds := []) (ok_law_most S) (hr.mono (by decide)) S.g_law_most S.F_law_most.kp S.b_law_most .nil (fun _ => .nil) takes0 (acons (dv 0) (acons (dv 6) anil))) (dv 2) (nomark _)))) (fun _ _ _ _ _ => (dv 6)))))))))
  (bone (sret (dv 3))))))
  · obtain ⟨_, _, _, rfl, _⟩ := h; rfl
  · rintro ss st ok ex ⟨b, l, k0, rfl, hl, k⟩
    walk_at "w"
    refine ⟨Nat.zero_le _, ?_⟩
    walk_at "w"
    refine ⟨by show 1 ≤ sizeLine; rw [sizeLine_eq]; decide, ?_⟩
    walk_at "w"
    have hin : ∀ n ∈ wn b l, ∃ s, (n, s) ∈ l := fun n hn => by
      obtain ⟨w, hw, rfl⟩ := List.mem_map.mp hn
      exact ⟨w.s, (wished_mem.mp hw).1⟩
    have h10 := asc_ten hl (wn_asc (b := b) hl) hin
    refine ⟨wn b l, by rw [← win_names, List.map_map, List.map_map, List.map_map]; rfl, by omega, fun ys hy hs => ?_⟩
    obtain rfl := sorted_is hy hs
    rw [show sortN (wn b l) = wn b l from sortN_same ((wn_asc (b := b) hl).imp fun {a c} h => of_decide_eq_true h)]
    walk_at "w"
    have hwa := wn_asc (b := b) hl
    refine loop_fold (wn b l) .str (chStep l (windows b l) k0) [[]] (fun F Δ' st' => ∃ v4 v5 v6 v7 v8 g, Δ' = [.dat (dicD winD (windows b l)), .dat (lstD ⟨S.C_Book, S.C_Rule, S.C_Listing, S.C_Sending⟩ l), dI (k0 : Int), .dat (.lst (F.map nsD)), v4, v5, v6, v7, v8] ∧ st' = g ++ st) (by rw [List.map_map]; rfl) ⟨_, _, _, _, _, [], rfl, rfl⟩ ?_ ?_
    · rintro pre n post F Δ' st1 has hF ⟨v4, v5, v6, v7, v8, g, rfl, rfl⟩
      have hF : F = chFold l (windows b l) k0 pre := hF
      have hpa : ascN pre := by rw [has] at hwa; exact (List.pairwise_append.mp hwa).1
      have hpn : (pre ++ [n]).length ≤ 10 := by
        have := congrArg List.length has
        rw [List.length_append, List.length_cons] at this
        rw [List.length_append, List.length_singleton]
        omega
      have hpl : pre.length + 1 ≤ 10 := by rw [List.length_append, List.length_singleton] at hpn; exact hpn
      have hmem : ∀ t ∈ F, (∀ z ∈ t, z ∈ wn b l) ∧ t.length ≤ pre.length := fun t ht => by
        rw [hF] at ht
        obtain ⟨h1, h2, _⟩ := (ch_mem pre hpa t).mp ht
        refine ⟨fun z hz => by rw [has]; exact List.mem_append_left _ (h2 z hz), (asc_nodup h1).length_le_of_subset h2⟩
      have hFl : F.length ≤ 512 := by
        rw [hF]
        have h1 := ch_len l (windows b l) k0 pre
        rw [List.length_append, List.length_singleton] at hpn
        have : 2 ^ pre.length ≤ 2 ^ 9 := Nat.pow_le_pow_right (by decide) (by omega)
        omega
      have hep : ∀ z ∈ wn b l, ∃ s, look l z = some s ∧ epAt l z = s.ep := fun z hz => by
        obtain ⟨s, hs⟩ := hin z hz
        have := hl.get hs
        exact ⟨s, this, by unfold epAt; rw [this]; rfl⟩
      have hewd : ∀ z ∈ wn b l, isWord (epAt l z).1 = true := fun z hz => by
        obtain ⟨s, hs⟩ := hin z hz
        rw [show epAt l z = s.ep from by unfold epAt; rw [hl.get hs]; rfl]
        exact (hl.ok _ hs).2.sh
      have hnw : n ∈ wn b l := by rw [has]; simp
      obtain ⟨sn, hsn, hen⟩ := hep n hnw
      walk_at "w"
      refine ⟨Nat.zero_le _, ?_⟩
      walk_at "w"
      intro p hp
      walk_at "w"
      refine loop_fold F nsD (fun M t => if (!decide (epAt l n ∈ t.map (epAt l))) = true then M ++ [t ++ [n]] else M) ([] : List (List Str)) (fun M Δ' st' => ∃ v6 v7 v8, Δ' = [.dat (dicD winD (windows b l)), .dat (lstD ⟨S.C_Book, S.C_Rule, S.C_Listing, S.C_Sending⟩ l), dI (k0 : Int), .dat (.lst (F.map nsD)), .dat (.str n), .own p, v6, v7, v8] ∧ st' = (p, .lst (M.map fun t => .dat (nsD t))) :: (g ++ st)) (by rw [List.map_map]; rfl) ⟨_, _, _, rfl, rfl⟩ ?_ ?_
      · rintro pre2 t post2 M Δ' st' has2 hM ⟨v6, v7, v8, rfl, rfl⟩
        rw [fold_filter (fun t => !decide (epAt l n ∈ t.map (epAt l))) (fun t => t ++ [n]), List.nil_append] at hM
        have hMl : M.length ≤ 512 := by
          rw [hM, List.length_map]
          have h1 := List.length_filter_le (fun t => !decide (epAt l n ∈ t.map (epAt l))) pre2
          have h2 := congrArg List.length has2
          rw [List.length_append, List.length_cons] at h2
          omega
        have ht : t ∈ F := by rw [has2]; simp
        obtain ⟨ht1, ht2⟩ := hmem t ht
        walk_at "w"
        refine lc_pure t .str (fun z => some (epD (epAt l z))) (by rw [List.map_map]; rfl) ?_ ?_
        · intro i z D acc hi hD J
          obtain ⟨s, hs, he⟩ := hep z (ht1 z (List.mem_of_getElem? hi))
          walk_at "ss"
          refine ⟨rfl, ?_⟩
          rw [ctItem_eq]
          refine ⟨l, z, s, rfl, hs, ?_⟩
          walk_at "w"
          refine ⟨rfl, _, _, rfl, rfl, ?_⟩
          walk_at "w"
          refine ⟨rfl, ?_⟩
          rw [ctItem_eq]
          refine ⟨l, z, s, rfl, hs, ?_⟩
          walk_at "w"
          refine ⟨rfl, _, _, rfl, rfl, ?_⟩
          walk_at "zz"
          exact lc_yes (by rw [sizeLine_eq]; omega) hi J (by rw [he]; rfl)
        rw [fm_some]
        walk_at "w"
        refine ⟨rfl, ?_⟩
        rw [ctItem_eq]
        refine ⟨l, n, sn, rfl, hsn, ?_⟩
        walk_at "w"
        refine ⟨rfl, _, _, rfl, rfl, ?_⟩
        walk_at "w"
        refine ⟨rfl, ?_⟩
        rw [ctItem_eq]
        refine ⟨l, n, sn, rfl, hsn, ?_⟩
        walk_at "w"
        refine ⟨rfl, _, _, rfl, rfl, ?_⟩
        walk_at "zz"
        refine ⟨epP (epAt l n), (t.map (epAt l)).map epP, by rw [hen]; exact ep_of sn.ep, by rw [show (t.map fun z => epD (epAt l z)) = (t.map (epAt l)).map epD from by rw [List.map_map]; rfl]; exact eps_of _, ep_shaped _ (hewd n hnw), eps_lay _ (fun e he => by obtain ⟨z, hz, rfl⟩ := List.mem_map.mp he; exact hewd z (ht1 z hz)), ?_⟩
        rw [ep_any]
        walk_at "w"
        refine ⟨fun h => ?_, fun h => ?_⟩
        · walk_at "w"
          refine ⟨⟨0, _, rfl⟩, ?_⟩
          walk_at "w"
          refine ⟨by show 1 ≤ sizeLine; rw [sizeLine_eq]; decide, ?_⟩
          walk_at "w"
          refine ⟨by rw [List.length_map, sizeLine_eq]; show t.length + 1 ≤ _; omega, ?_⟩
          walk_at "w"
          refine ⟨0, _, rfl, by rw [List.length_map, sizeLine_eq]; omega, ?_⟩
          walk_at "w"
          refine ⟨_, _, _, rfl, ?_⟩
          have h : (!decide (epAt l n ∈ t.map (epAt l))) = true := h
          rw [if_pos h, List.map_append]
          show _ = (p, Ob.lst (M.map (fun t => Sv.dat (nsD t)) ++ [Sv.dat (nsD (t ++ [n]))])) :: (g ++ st)
          rw [show nsD (t ++ [n]) = Dt.tup (t.map Dt.str ++ [.str n]) from by unfold nsD; rw [List.map_append]; rfl]
          rfl
        · walk_at "w"
          have h : (!decide (epAt l n ∈ t.map (epAt l))) = false := h
          rw [if_neg (by rw [h]; decide)]
          exact ⟨_, _, _, rfl, rfl⟩
      · rintro Δ' st' ⟨v6, v7, v8, rfl, rfl⟩
        rw [fold_filter (fun t => !decide (epAt l n ∈ t.map (epAt l))) (fun t => t ++ [n]), List.nil_append]
        obtain ⟨M, hM⟩ : ∃ M, M = (F.filter fun t => !decide (epAt l n ∈ t.map (epAt l))).map fun t => t ++ [n] := ⟨_, rfl⟩
        have hMl : M.length ≤ 512 := by
          rw [hM, List.length_map]
          exact Nat.le_trans (List.length_filter_le _ _) hFl
        rw [← hM]
        walk_at "w"
        refine ⟨0, _, rfl, ?_⟩
        refine lcO_pure M nsD (fun t => if decide (mostAt (windows b l) t ≤ (k0 : Int)) = true then some (nsD t) else none) rfl (j := 0) rfl ?_ ?_
        · intro i t D acc hi D2 J
          have htM := List.mem_of_getElem? hi
          rw [hM] at htM
          obtain ⟨u, hu, rfl⟩ := List.mem_map.mp htM
          obtain ⟨hu1, hu2⟩ := hmem u (List.mem_filter.mp hu).1
          walk_at "w"
          rw [ctMost_eq]
          refine ⟨windows b l, u ++ [n], rfl, ⟨by rw [List.length_append, List.length_singleton]; omega, fun z hz => ?_⟩, ?_⟩
          · refine look_is ?_
            rw [win_names]
            rcases List.mem_append.mp hz with hz | hz
            · exact hu1 z hz
            · rw [List.mem_singleton.mp hz]
              exact hnw
          walk_at "w"
          refine ⟨fun h => ?_, fun h => ?_⟩
          · walk_at "w"
            exact lc_yes (by rw [sizeLine_eq]; omega) hi J (if_pos h)
          · walk_at "w"
            exact lc_no hi J (if_neg (by rw [show decide (mostAt (windows b l) (u ++ [n]) ≤ (k0 : Int)) = false from h]; decide))
        rw [fm_if]
        have hcl : (M.filter fun t => decide (mostAt (windows b l) t ≤ (k0 : Int))).length ≤ 512 := Nat.le_trans (List.length_filter_le _ _) hMl
        walk_at "w"
        refine ⟨by rw [List.length_map, List.length_map, List.length_map, List.length_map, sizeLine_eq]; omega, _, .app (.mapf _ _) (.mapf _ _), ?_⟩
        walk_at "w"
        refine ⟨.dat (.str n), .own p, v6, v7, v8, (p, Ob.lst (M.map fun t => Sv.dat (nsD t))) :: g, ?_, rfl⟩
        unfold chStep
        rw [← hM, List.map_append]
        simp only [List.map_id']
        rfl
    · rintro Δ' st' ⟨v4, v5, v6, v7, v8, g, rfl, rfl⟩
      walk_at "w"
      exact ⟨_, _, .keep (List.sublist_append_right _ _), k⟩
theorem okC_law_named (S : En K mg) : FnC P w K mg base 1 S.f_law_named S.d_law_named ["_law_name", "_law_error_here"] (lowF K ctNamedX) := by
  refine fn_lowC _ S.F_law_named sc_law_named (fun ss st ok ex h => ?_) ?_ (fun cdv A outer s H E p hr => (bcons (sif (tcmp (op_inP (huH65 hr)) lr_inP (dv 0) (dtup (acons ds (acons ds anil))) (by with_unfolding_all rfl))
   (bone (sret (dtup (acons (dv 0) (acons ddead (acons ddead anil)))))) bnil)
  (bcons (sif (tcmp op_eq lr_eqS (dv 0) ds (nomark _))
   (bone (sret (dtup (acons (dv 0) (acons ddead anil))))) bnil)
  (bcons (sif (tcmp op_eq lr_eqS (dv 0) ds (nomark _))
   (bone (sret (dtup (acons (dv 0) (acons ddead anil))))) bnil)
  (bcons (sif (tcmp (op_inP (huH65 hr)) lr_inP (dv 0) (dtup (acons ds (acons ds anil))) (by with_unfolding_all rfl))
   (bone (sret (dtup (acons (dv 0) (acons ddead anil))))) bnil)
  (bcons (sif (tcmp (op_inP (huH65 hr)) lr_inP (dv 0) (dtup (acons ds (acons ds (acons ds (acons ds anil))))) (by with_unfolding_all rfl))
   (bone (sret (dtup (acons (dv 0) (acons ddead anil))))) bnil)
  (bone (sret (dv 0)))))))))
  · obtain ⟨_, rfl, _⟩ := h; rfl
  · rintro ss st ok ex ⟨e, rfl, k⟩
    have hw : SeqAt.shaped (txtP "InvalidNumber") = true := txt_shapedO _ (by decide +kernel)
    walk_at "yy"
    refine ⟨txtP "InvalidNumber", (["DaybookError", "InvalidRow"] : List Str).map txtP, txt_of _, (show PyOfs ((["DaybookError", "InvalidRow"] : List Str).map Dt.str) _ from txts_of _), hw, txts_layO _ (by decide +kernel), ?_⟩
    rw [txt_any]
    walk_at "ss"
    walk_at "yy"
    refine ⟨txtP "InvalidNumber", (["InvalidRule", "InvalidSending"] : List Str).map txtP, txt_of _, (show PyOfs ((["InvalidRule", "InvalidSending"] : List Str).map Dt.str) _ from txts_of _), hw, txts_layO _ (by decide +kernel), ?_⟩
    rw [txt_any]
    walk_at "ss"
    walk_at "yy"
    refine ⟨txtP "InvalidNumber", (["InvalidBooks", "InvalidLog", "InvalidOperation", "InvalidRows"] : List Str).map txtP, txt_of _, (show PyOfs ((["InvalidBooks", "InvalidLog", "InvalidOperation", "InvalidRows"] : List Str).map Dt.str) _ from txts_of _), hw, txts_layO _ (by decide +kernel), ?_⟩
    rw [txt_any]
    walk_at "ss"
    exact ⟨_, _, .keep (List.Sublist.refl _), k⟩
theorem ok_law (S : En K mg) (TB : LamX.TabB base mg S.tc_law S.tp_law) : FnOk P w K mg base (L2.CX P w) 11 S.f_law S.d_law ["_law_script"] (lowF K (ctLawT S.tp_law)) := by
  refine fn_lowL _ S.F_law S.dc_law sc_law (fun ss st ok ex h => ?_) ?_ (fun A outer s H E cl hr tk po hcl => (bcons (sset 1 sc_law.nd (dcall (dds := []) (ok_law_begun S) (hr.mono (by decide)) S.g_law_begun S.F_law_begun.kp S.b_law_begun .nil (fun _ => .nil) tk (acons (dv 0) anil)))
  (bcons (sfor po (iR S.n_range (acons di anil)) (gname 2 sc_law.nd)
   (bcons (sparC3 3 4 5 sc_law.nd (acons (dcall (dds := []) (ok_law_listing S) (hr.mono (by decide)) S.g_law_listing S.F_law_listing.kp S.b_law_listing .nil (fun _ => .nil) tk (acons (dv 1) (acons di anil))) (acons (dcall (dds := []) (ok_law_wishes_of S) (hr.mono (by decide)) S.g_law_wishes_of S.F_law_wishes_of.kp S.b_law_wishes_of .nil (fun _ => .nil) tk (acons (dv 1) (acons di anil))) (acons (dop op_add lr_add di (dcall (dds := []) (ok_law_take S) (hr.mono (by decide)) S.g_law_take S.F_law_take.kp S.b_law_take .nil (fun _ => .nil) tk (acons (dv 1) (acons di anil)))) anil))))
  (bcons (sset 6 sc_law.nd (dct call_tuple_of lc_tup S.n_tuple PyProof.Rows.boot_tuple (acons (dlc [("_law_name", 7)] sc_law.nd (iL (dlst (acons ds (acons ds (acons ds (acons ds (acons ds (acons ds anil)))))))) (blkOk_by (N := ["_law_script", "_law_box", "_law_turn", "_law_listing_here", "_law_book", "_law_receivers", "_law_names", "_law_name", "_law_windows_here", "_law_rows", "_law_some", "_law_kept", "_law_total", "_law_best", "_law_plain", "_law_row", "_law_wrong"]) (sc := defScope s_law) (by decide +kernel)) (fun _ _ _ _ _ => (gwname 7 sc_law.nd)) (fun _ _ _ _ _ => (tsone (tcmp op_eq lr_eqS (dcall (dds := []) (ok_law_take S) (hr.mono (by decide)) S.g_law_take S.F_law_take.kp S.b_law_take .nil (fun _ => .nil) takes0 (acons (dv 1) (acons di anil))) di (nomark _)))) (fun _ _ _ _ _ => (dv 7))) anil)))
  (bcons (spar 8 9 sc_law.nd (acons (dcall (dds := []) (ok_law_windows S) (hr.mono (by decide)) S.g_law_windows S.F_law_windows.kp S.b_law_windows .nil (fun _ => .nil) tk (acons (dv 4) (acons (dv 3) anil))) (acons (dlstO anil) anil)))
  (bcons (sfor po (iL (dcall (dds := []) (ok_law_choices S) (hr.mono (by decide)) S.g_law_choices S.F_law_choices.kp S.b_law_choices .nil (fun _ => .nil) tk (acons (dv 8) (acons (dv 3) (acons (dv 5) anil))))) (gname 10 sc_law.nd)
   (bcons (sset 11 sc_law.nd (dcb call_len_seq lc_lenL S.n_len PySem.boot_len (acons (dlc [("_law_name", 7)] sc_law.nd (iT (dv 10)) (blkOk_by (N := ["_law_script", "_law_box", "_law_turn", "_law_listing_here", "_law_book", "_law_receivers", "_law_names", "_law_name", "_law_windows_here", "_law_rows", "_law_some", "_law_kept", "_law_total", "_law_best", "_law_plain", "_law_row", "_law_wrong"]) (sc := defScope s_law) (by decide +kernel)) (fun _ _ _ _ _ => (gwname 7 sc_law.nd)) (fun _ _ _ _ _ => (tsone (tsIn hr (dv 7) (dv 6)))) (fun _ _ _ _ _ => (dv 7))) anil)))
  (bcons (sset 12 sc_law.nd (dcb (cr_sum rfl) lc_sum S.n_sum PyProof.Rows.boot_sum (acons (dlc [("_law_name", 7)] sc_law.nd (iT (dv 10)) (blkOk_by (N := ["_law_script", "_law_box", "_law_turn", "_law_listing_here", "_law_book", "_law_receivers", "_law_names", "_law_name", "_law_windows_here", "_law_rows", "_law_some", "_law_kept", "_law_total", "_law_best", "_law_plain", "_law_row", "_law_wrong"]) (sc := defScope s_law) (by decide +kernel)) (fun _ _ _ _ _ => (gwname 7 sc_law.nd)) (fun _ _ _ _ _ => tsnil) (fun _ _ _ _ _ => (dprop S.cl_Rule S.p_Rule_priority (ok_Rule_priority S) (hr.mono (by decide)) S.b_Rule_priority (dcall (dds := []) (ok_law_rule_of S) (hr.mono (by decide)) S.g_law_rule_of S.F_law_rule_of.kp S.b_law_rule_of .nil (fun _ => .nil) takes0 (acons (dv 4) (acons (dget S.sg_Listing_getitem S.fi_Listing_getitem S.fn_Listing_getitem (ok_Listing_getitem S) (hr.mono (by decide)) S.b_Listing_getitem takes0 (dv 3) (dv 7)) anil)))))) anil)))
  (bone (sapp (dv 9) (dtup (acons (dop op_sub lr_sub di (dv 11)) (acons (dop op_sub lr_sub di (dv 12)) (acons (dop op_sub lr_sub di (dcb call_len_seq lc_lenT S.n_len PySem.boot_len (acons (dv 10) anil))) (acons (dv 10) anil))))))))))
  (bcons (sset 13 sc_law.nd (dcb (cr_minP rfl (hu65 hr)) lc_bestP S.n_min PyProof.Rows.boot_min (acons (dv 9) anil)))
  (bcons (sif (tnot (tval (dcall (dds := []) (ok_law_alike S 6) (hr.mono (by decide)) S.g_law_alike S.F_law_alike.kp S.b_law_alike .nil (fun _ => .nil) tk (acons (dcall (dds := []) (ok_steady_choice S) (hr.mono (by decide)) S.g_steady_choice S.F_steady_choice.kp S.b_steady_choice .nil (fun _ => .nil) tk (acons (dv 4) (acons (dv 3) (acons (dv 5) (acons (dv 6) anil))))) (acons (dtup (acons (dop op_sub lr_sub di (dix ix_tup lr_ixT (dv 13) di)) (acons (dop op_sub lr_sub di (dix ix_tup lr_ixT (dv 13) di)) (acons (dix ix_tup lr_ixT (dv 13) di) anil)))) anil)))))
   (bone (sret db)) bnil)
  (bcons (sset 14 sc_law.nd (dcall (dds := []) (ok_steady_choice S) (hr.mono (by decide)) S.g_steady_choice S.F_steady_choice.kp S.b_steady_choice .nil (fun _ => .nil) tk (acons (dv 4) (acons (dv 3) (acons (dv 5) (acons (dtup anil) anil))))))
  (bcons (sif (tw (wor (tcmp op_ne lr_neS (dix ix_tup lr_ixT (dv 14) di) di (nomark _)) (wor1 (tcmp op_ne lr_neS (dix ix_tup lr_ixT (dv 14) di) (dcb (cr_maxP rfl (hu65 hr)) lc_bestP S.n_max PyProof.Rows.boot_max (acons (dlcO [("_law_row", 15)] sc_law.nd (dv 9) (blkOk_by (N := ["_law_script", "_law_box", "_law_turn", "_law_listing_here", "_law_book", "_law_receivers", "_law_names", "_law_name", "_law_windows_here", "_law_rows", "_law_some", "_law_kept", "_law_total", "_law_best", "_law_plain", "_law_row", "_law_wrong"]) (sc := defScope s_law) (by decide +kernel)) (fun _ _ _ _ _ => (gwname 15 sc_law.nd)) (fun _ _ _ _ _ => tsnil) (fun _ _ _ _ _ => (dop op_sub lr_sub di (dix ix_tup lr_ixT (dv 15) di)))) anil)) (nomark _)))))
   (bone (sret db)) bnil)
  (bcons (sif (tcmp (op_neD (hu64 hr)) lr_neP (dcall (dds := []) (ok_steady_choice S) (hr.mono (by decide)) S.g_steady_choice S.F_steady_choice.kp S.b_steady_choice .nil (fun _ => .nil) tk (acons (dv 4) (acons (dv 3) (acons (dv 5) (acons (dix ix_tup lr_ixT (dv 14) di) anil))))) (dtup (acons (dcb call_len_seq lc_lenT S.n_len PySem.boot_len (acons (dix ix_tup lr_ixT (dv 14) di) anil)) (acons (dix ix_tup lr_ixT (dv 14) di) (acons (dix ix_tup lr_ixT (dv 14) di) anil)))) (nomark _))
   (bone (sret db)) bnil)
  (bone (sfor po (iT (dtup (acons di (acons di (acons db anil))))) (gname 16 sc_law.nd)
   (bone (sif (tcmp op_ne lr_neS (lamcallE (P := S.tp_law) (jr := 8) (Ng := ["_law_work", "_law_error_here", "_law_kinds", "_law_names"]) hcl S.F_law_error sc_law_error S.g_law_error S.b_law_error (hr.mono (by decide)) tk
    (lams_cons (k := lam_law_0) (show lamB ["_law_script", "_law_box", "_law_turn", "_law_listing_here", "_law_book", "_law_receivers", "_law_names", "_law_name", "_law_windows_here", "_law_rows", "_law_some", "_law_kept", "_law_total", "_law_best", "_law_plain", "_law_row", "_law_wrong"] (defScope s_law) _ = true by decide +kernel) (.inl ⟨rfl, fun _ _ _ _ _ _ => rfl⟩) (fun q A outer s H E f c' hr tk => (dcall (dds := []) (ok_steady_choice S) (hr.mono (by decide)) S.g_steady_choice S.F_steady_choice.kp S.b_steady_choice .nil (fun _ => .nil) tk (acons (dv 4) (acons (dv 3) (acons (dv 16) (acons (dv 6) anil))))))
    lams_nil)
    (dlam (q := qLam "law") hcl TB rfl rfl (show ∀ y ∈ (_ : List (Str × NameKind)), y.2 = NameKind.free → (defScope s_law).names.lookup y.1 = some NameKind.cell ∨ (defScope s_law).names.lookup y.1 = some NameKind.free by decide +kernel) (by first | exact ⟨.inl rfl, rfl⟩ | exact ⟨.inr ⟨_, _, rfl⟩, rfl⟩))
    (fun cdv A outer s H E act hr tk po hact => (bcons (stryN K sc_law_error.nd tk (fun V pn xe tk1 po1 => (bone (sdrop (hact _ _ _ _ _ tk1))))
   (.as 1 (named S.g_RecorderError) (fun a oe cls d pn hz hf => (bcons (sset 2 sc_law_error.nd (dlst (acons (dise2 K 1 S.n_isinstance S.g_DaybookError hz hf) (acons (dise2 K 1 S.n_isinstance S.g_DecodeError hz hf) (acons (dise K 1 S.n_isinstance S.g_DoubleName hz hf) anil)))))
  (bcons (sset 2 sc_law_error.nd (dop op_cat lr_cat (dv 2) (dlst (acons (dise K 1 S.n_isinstance S.g_InvalidBook hz hf) (acons (dise2 K 1 S.n_isinstance S.g_InvalidBooks hz hf) anil)))))
  (bcons (sset 2 sc_law_error.nd (dop op_cat lr_cat (dv 2) (dlst (acons (dise2 K 1 S.n_isinstance S.g_InvalidListing hz hf) (acons (dise2 K 1 S.n_isinstance S.g_InvalidLog hz hf) anil)))))
  (bcons (sset 2 sc_law_error.nd (dop op_cat lr_cat (dv 2) (dlst (acons (dise K 1 S.n_isinstance S.g_InvalidName hz hf) (acons (dise K 1 S.n_isinstance S.g_InvalidNumber hz hf) anil)))))
  (bcons (sset 2 sc_law_error.nd (dop op_cat lr_cat (dv 2) (dlst (acons (dise2 K 1 S.n_isinstance S.g_InvalidOperation hz hf) (acons (dise K 1 S.n_isinstance S.g_InvalidPool hz hf) anil)))))
  (bcons (sset 2 sc_law_error.nd (dop op_cat lr_cat (dv 2) (dlst (acons (dise2 K 1 S.n_isinstance S.g_InvalidRow hz hf) (acons (dise2 K 1 S.n_isinstance S.g_InvalidRows hz hf) (acons (dise2 K 1 S.n_isinstance S.g_InvalidRule hz hf) anil))))))
  (bcons (sset 2 sc_law_error.nd (dop op_cat lr_cat (dv 2) (dlst (acons (dise2 K 1 S.n_isinstance S.g_InvalidSending hz hf) (acons (dise K 1 S.n_isinstance S.g_InvalidSpan hz hf) (acons (dise K 1 S.n_isinstance S.g_NoDelay hz hf) anil))))))
  (bcons (sset 2 sc_law_error.nd (dop op_cat lr_cat (dv 2) (dlst (acons (dise K 1 S.n_isinstance S.g_NoFit hz hf) (acons (dise K 1 S.n_isinstance S.g_UnknownChannel hz hf) (acons (dise K 1 S.n_isinstance S.g_UnknownMark hz hf) anil))))))
  (bcons (sset 2 sc_law_error.nd (dop op_cat lr_cat (dv 2) (dlst (acons (dise K 1 S.n_isinstance S.g_UnknownName hz hf) anil))))
  (bcons (sset 3 sc_law_error.nd (dlstO (acons ds (acons ds (acons ds (acons ds (acons ds (acons ds anil))))))))
  (bcons (sapp (dv 3) ds)
  (bcons (sset 3 sc_law_error.nd (dop op_cat lr_catO (dv 3) (dlst (acons ds (acons ds (acons ds (acons ds (acons ds (acons ds anil)))))))))
  (bcons (sset 3 sc_law_error.nd (dop op_cat lr_catO (dv 3) (dlst (acons ds (acons ds (acons ds (acons ds (acons ds (acons ds anil)))))))))
  (bcons (sset 3 sc_law_error.nd (dop op_cat lr_catO (dv 3) (dlst (acons ds (acons ds anil)))))
  (bcons (sif (tw (wor (tcmp op_ne lr_neS (dcount (by have z := hu65 hr; exact z) (dv 2) db) di (nomark _)) (wor1 (tnot (tval (diseV (T := "ValueError") K 1 S.n_isinstance S.n_ValueError (by decide +kernel) hz hf))))))
   (bone (sret ds)) bnil)
  (bone (sret (dcallC (cls := cls) (d := d) (okC_law_named S) (L2H.roomH_of (hr.mono (by decide))) S.g_law_named S.F_law_named.kp S.b_law_named (acons (dix ix_list lr_ixL (dv 3) (dindex (by have z := hu65 hr; exact z) (dv 2) db)) (acons (dv 1) anil))))))))))))))))))))) ClD.nil))
  (bone (sret ds))))) ds (nomark _))
   (bone (sret db)) bnil))))))))))))))
  (bone (sret db)))))
  · (repeat (first | (obtain ⟨rfl, _⟩ := h; rfl) | (obtain ⟨_, h⟩ := h)))
  · intro cl ss st ok ex h
    obtain ⟨ns, rfl, hl, rfl, k⟩ := h
    walk_at "w"
    refine ⟨ns, rfl, hl, fun p q s hpq hp hq => ?_⟩
    walk_at "w"
    refine ⟨by decide, by decide, ?_⟩
    walk_at "w"
    refine loop_fold (List.range 2) (fun i => .int (0 + (i : Int))) (fun (s : Unit) _ => s) () (fun _ Δ' st' => ∃ (v2 v3 v4 v5 v6 v7 v8 v9 v10 v11 v12 v13 v14 v15 v16 : Sv) (g : Store) (s : Int) (xs : List Int) (Δg : List Sv) (σg : List (Option V)), Δ' = [.dat (.fls (ns.map Dt.int)), .own p, v2, v3, v4, v5, v6, v7, v8, v9, v10, v11, v12, v13, v14, v15, v16] ∧ st' = g ++ [(p, obB q s), (q, obX xs), (S.tp_law, Ob.tbl (qLam "law") Δg σg)] ∧ xs.length ≤ 63) (by unfold rngS; simp) ⟨.un, .un, .un, .un, .un, .un, .un, .un, .un, .un, .un, .un, .un, .un, .un, [], s, ns, [], [], rfl, rfl, hl⟩ ?_ ?_
    · rintro pre0 t0 post0 _ Δ' st' - - ⟨v2, v3, v4, v5, v6, v7, v8, v9, v10, v11, v12, v13, v14, v15, v16, g, s, xs, Δg, σg, rfl, rfl, hx⟩
      walk_at "w"
      rw [ctFListing_eq]
      refine ⟨g, p, q, s, xs, [(S.tp_law, Ob.tbl (qLam "law") Δg σg)], 7, rfl, rfl, hx, by decide, by decide, fun l s xs hl hlm hl7 hx => ?_⟩
      walk_at "w"
      rw [ctFBook_eq]
      refine ⟨g, p, q, s, xs, [(S.tp_law, Ob.tbl (qLam "law") Δg σg)], 4, rfl, rfl, hx, by decide, by decide, fun b s xs hb hbr hb4 hbs hbe hx => ?_⟩
      walk_at "w"
      refine take_pre g (by decide) (by decide) hx fun kk s xs kk0 kk1 hx => ?_
      obtain ⟨j, rfl⟩ : ∃ j : Nat, kk = (j : Int) := ⟨kk.toNat, by omega⟩
      have hk1 : 1 ≤ 1 + j := by omega
      have hk2 : 1 + j ≤ 10 := by omega
      walk_at "zz"
      refine lc_state (["a", "b", "cc", "dd", "eve", "zoe"] : List Str) .str (fun c ds st' => ∃ (nm : List Str) (s : Int) (xs : List Int), ds = nm.map .str ∧ nm.length ≤ c ∧ (∀ n ∈ nm, isWord n = true) ∧ st' = g ++ [(p, obB q s), (q, obX xs), (S.tp_law, Ob.tbl (qLam "law") Δg σg)] ∧ xs.length ≤ 63) rfl ⟨[], s, xs, rfl, Nat.le_refl _, (fun n h => by cases h), rfl, hx⟩ ?_ ?_
      · rintro c n D ds st' hi hD ⟨nm, s, xs, rfl, hnl, hnw, rfl, hx⟩
        have hcl : c < 6 := (List.getElem?_eq_some_iff.mp hi).1
        have hwd : isWord n = true := (by decide +kernel : ∀ n ∈ (["a", "b", "cc", "dd", "eve", "zoe"] : List Str), isWord n = true) n (List.mem_of_getElem? hi)
        walk_at "ss"
        refine take_pre ((D, Ob.lst (List.map Sv.dat (nm.map Dt.str))) :: g) (by decide) (by decide) hx fun a s xs a0 a1 hx => ?_
        walk_at "w"
        refine ⟨fun h => ?_, fun h => ?_⟩
        · walk_at "w"
          refine lcr_yes (by rw [List.length_map, sizeLine_eq]; omega) ⟨nm ++ [n], s, xs, by rw [List.map_append]; rfl, by rw [List.length_append, List.length_singleton]; omega, fun y hy => ?_, rfl, hx⟩
          rcases List.mem_append.mp hy with hy | hy
          · exact hnw y hy
          · rw [List.mem_singleton.mp hy]
            exact hwd
        · walk_at "w"
          exact lcr_no ⟨nm, s, xs, rfl, by omega, hnw, rfl, hx⟩
      rintro ds st' ⟨nm, s, xs, rfl, hnl, hnw, rfl, hx⟩
      have hnl : nm.length ≤ 6 := hnl
      walk_at "w"
      refine bl_at () rfl hb hl trivial ?_
      walk_at "zz"
      intro d hd
      walk_at "w"
      refine ⟨b, l, 1 + j, rfl, hl, ?_⟩
      walk_at "w"
      have hC : ∀ t, t ∈ chFold l (windows b l) (1 + j) (wn b l) ↔ t ∈ choicesIn b l (1 + j) := ch_choices hl
      have hCl : (chFold l (windows b l) (1 + j) (wn b l)).length ≤ 1024 := by
        have h1 := ch_len l (windows b l) (1 + j) (wn b l)
        have h10 := asc_ten hl (wn_asc (b := b) hl) (fun n hn => by
          obtain ⟨w, hw, rfl⟩ := List.mem_map.mp hn
          exact ⟨w.s, (wished_mem.mp hw).1⟩)
        have : 2 ^ (wn b l).length ≤ 2 ^ 10 := Nat.pow_le_pow_right (by decide) h10
        omega
      refine loop_fold (chFold l (windows b l) (1 + j) (wn b l)) nsD (fun rs t => rs ++ [stRow b l nm t]) ([] : List StR) (fun rs Δ' st' => ∃ v7 v10 v11 v12, Δ' = [.dat (.fls (ns.map Dt.int)), .own p, .dat (.int (0 + (t0 : Int))), .dat (lstD ⟨S.C_Book, S.C_Rule, S.C_Listing, S.C_Sending⟩ l), .dat (b.d ⟨S.C_Book, S.C_Rule, S.C_Listing, S.C_Sending⟩), dI ((1 + j : Nat) : Int), .dat (nsD nm), v7, .dat (dicD winD (windows b l)), .own d, v10, v11, v12, v13, v14, v15, v16] ∧ st' = (d, .lst (rs.map fun r => .dat (stD r))) :: (g ++ [(p, obB q s), (q, obX xs), (S.tp_law, Ob.tbl (qLam "law") Δg σg)])) (by rw [List.map_map]; rfl) ⟨_, _, _, _, rfl, rfl⟩ ?_ ?_
      · rintro pre t post rs Δ' st' has hs ⟨v7, v10, v11, v12, rfl, rfl⟩
        rw [fold_snoc, List.nil_append] at hs
        have ht : t ∈ choicesIn b l (1 + j) := (hC t).mp (by rw [has]; simp)
        obtain ⟨h1, h2⟩ := choices_in hl ht
        have hrl : rs.length ≤ 1024 := by
          rw [hs, List.length_map]
          have := congrArg List.length has
          rw [List.length_append, List.length_cons] at this
          omega
        have htw : ∀ n ∈ t, isWord n = true := fun n hn => by
          obtain ⟨w, hw, rfl⟩ := List.mem_map.mp (h2 n hn)
          exact (hl.ok _ (wished_mem.mp hw).1).1
        walk_at "w"
        refine lc_pure t .str (fun n => if isIn nm n = true then some (.str n) else none) (by rw [List.map_map]; rfl) ?_ ?_
        · intro i n D acc hi hD J
          walk_at "ss"
          refine ⟨txtP n, nm.map txtP, txt_of _, txts_of _, txt_shaped _ (htw n (List.mem_of_getElem? hi)), txts_lay _ hnw, ?_⟩
          rw [txt_any]
          refine ⟨fun h => ?_, fun h => ?_⟩
          · walk_at "w"
            exact lc_yes (by rw [sizeLine_eq]; omega) hi J (if_pos h)
          · walk_at "w"
            exact lc_no hi J (if_neg (by unfold isIn; have h : decide (n ∈ nm) = false := h; rw [h]; decide))
        rw [fm_if]
        walk_at "w"
        refine lc_pure t .str (fun n => some (.int (prioAt b l n))) (by rw [List.map_map]; rfl) ?_ ?_
        · intro i n D acc hx hD J
          obtain ⟨w, hw, rfl⟩ := List.mem_map.mp (h2 n (List.mem_of_getElem? hx))
          obtain ⟨hw1, hw2⟩ := wished_mem.mp hw
          walk_at "ss"
          refine ⟨rfl, ?_⟩
          rw [ctItem_eq]
          refine ⟨l, w.n, w.s, rfl, hl.get hw1, ?_⟩
          walk_at "w"
          rw [ctRuleFor_eq]
          refine ⟨b, w.s, rfl, hb, (hl.ok _ hw1).2, ?_⟩
          rw [hw2]
          walk_at "w"
          refine ⟨rfl, _, _, rfl, rfl, ?_⟩
          walk_at "w"
          exact lc_yes (by rw [sizeLine_eq]; omega) hx J (by rw [prioAt_is hl hw])
        rw [fm_some]
        walk_at "w"
        refine ⟨t.map (prioAt b l), by rw [List.map_map, List.map_map]; rfl, ?_⟩
        walk_at "w"
        refine ⟨⟨0, _, rfl⟩, ?_⟩
        walk_at "zz"
        refine ⟨0, _, rfl, by rw [List.length_map, sizeLine_eq]; omega, ?_⟩
        walk_at "w"
        refine ⟨_, _, _, _, rfl, ?_⟩
        rw [List.map_append]
        simp only [List.length_map]
        rw [show stRow b l nm t = (0 - (keptOf nm t : Int), 0 - worthOf b l t, 0 - (t.length : Int), t) from by unfold stRow; rw [Int.zero_sub, Int.zero_sub, Int.zero_sub]]
        rfl
      · rintro Δ' st' ⟨v7, v10, v11, v12, rfl, rfl⟩
        rw [fold_snoc, List.nil_append]
        obtain ⟨C, hCe⟩ : ∃ C, C = chFold l (windows b l) (1 + j) (wn b l) := ⟨_, rfl⟩
        rw [← hCe] at hC hCl ⊢
        cases C with
        | nil =>
          have := (hC []).mpr (choices_nil b l (1 + j))
          cases this
        | cons c0 cs =>
          walk_at "w"
          refine ⟨0, _, rfl, ?_⟩
          refine ⟨StR, stRow b l nm c0, cs.map (stRow b l nm), stD, stP, by rw [List.map_cons], st_of, st_alike _, st_depth _, fun r hr hm => ?_⟩
          obtain ⟨t, ht, rfl⟩ : ∃ t, t ∈ c0 :: cs ∧ r = stRow b l nm t := by
            rcases List.mem_cons.mp hr with rfl | hr
            · exact ⟨c0, List.mem_cons_self, rfl⟩
            · obtain ⟨t, ht, rfl⟩ := List.mem_map.mp hr
              exact ⟨t, List.mem_cons_of_mem _ ht, rfl⟩
          rw [List.map_map] at hm
          have hst := steady_min ht hm
          walk_at "w"
          refine Or.inl ⟨b, l, 1 + j, nm, rfl, hb, hl, hk1, hk2, hnw, fun t' ht' => ?_⟩
          obtain rfl : t = t' := steady_one hC hst ht'
          walk_at "w"
          refine ⟨_, rfl, ?_⟩
          walk_at "w"
          refine ⟨_, rfl, ?_⟩
          walk_at "w"
          refine ⟨_, rfl, ?_⟩
          walk_at "zz"
          refine ⟨.tup [.int (keptOf nm t : Int), .int (worthOf b l t), nsD t], ?_, ?_, ?_⟩
          · show [Sv.dat (.tup [.int (keptOf nm t : Int), .int (worthOf b l t), nsD t]), Sv.dat (.tup [.int (0 - -(keptOf nm t : Int)), .int (0 - -worthOf b l t), nsD t])] = _
            rw [Int.zero_sub, Int.zero_sub, Int.neg_neg, Int.neg_neg]
          · refine .tup (n := 5) (fun z hz => ?_) (by simp [sizeLine_eq])
            simp only [List.mem_cons, List.not_mem_nil, or_false] at hz
            rcases hz with rfl | rfl | rfl
            · constructor
            · constructor
            · refine .tup (n := 4) (fun z hz => ?_) (by rw [List.length_map, sizeLine_eq]; have := (choices_in hl ht'.1).1; omega)
              obtain ⟨n, _, rfl⟩ := List.mem_map.mp hz
              constructor
          walk_at "ss"
          walk_at "zz"
          refine Or.inl ⟨b, l, 1 + j, [], rfl, hb, hl, hk1, hk2, (fun n h => by cases h), fun u hu => ?_⟩
          have hul := choices_in hl hu.1
          rw [kept_none]
          walk_at "w"
          refine ⟨_, rfl, ?_⟩
          walk_at "ss"
          refine ⟨_, rfl, ?_⟩
          walk_at "w"
          refine ⟨0, _, rfl, ?_⟩
          refine lcO_pure ((c0 :: cs).map (stRow b l nm)) stD (fun r => some (.int (0 - r.2.1))) rfl (j := 0) rfl ?_ ?_
          · intro i r D acc hi D2 J
            walk_at "ss"
            refine ⟨_, rfl, ?_⟩
            walk_at "w"
            exact lc_yes (by rw [List.length_map, sizeLine_eq]; omega) hi J rfl
          rw [fm_some]
          walk_at "w"
          refine ⟨Int, 0 - -worthOf b l c0, cs.map fun u => 0 - -worthOf b l u, .int, .int, by rw [List.map_map, List.map_map, List.map_cons, List.map_cons, List.map_map]; rfl, fun i => .int i, ints_alike _, Nat.le_trans (Nat.le_of_eq (PySem.W.depth_ints _)) (by decide), fun z hr2 hz => ?_⟩
          rw [PySem.W.maxD_ints] at hz
          have hzw : z = worthOf b l u := by
            have hz : z = List.foldl max (0 - -worthOf b l c0) (cs.map fun u => 0 - -worthOf b l u) := by cases hz; rfl
            have hle : ∀ v ∈ c0 :: cs, worthOf b l v ≤ worthOf b l u := fun v hv => steady_worth hu v ((hC v).mp hv)
            have h1 : z ≤ worthOf b l u := by
              rcases List.mem_cons.mp hr2 with e | e
              · have := hle c0 List.mem_cons_self
                omega
              · obtain ⟨v, hv, e⟩ := List.mem_map.mp e
                have := hle v (List.mem_cons_of_mem _ hv)
                omega
            have h2 : worthOf b l u ≤ z := by
              have h3 := (foldl_max_le (cs.map fun u => 0 - -worthOf b l u) (0 - -worthOf b l c0)).mp (Int.le_of_eq hz.symm)
              rcases List.mem_cons.mp ((hC u).mpr hu.1) with e | e
              · rw [e]
                have := h3.1
                omega
              · have := h3.2 _ (List.mem_map.mpr ⟨u, e, rfl⟩)
                omega
            omega
          rw [hzw]
          walk_at "w"
          refine ⟨fun h => absurd h (by simp), fun _ => ?_⟩
          walk_at "w"
          refine ⟨_, rfl, ?_⟩
          have huw : ∀ n ∈ u, isWord n = true := fun n hn => by
            obtain ⟨w, hw, rfl⟩ := List.mem_map.mp (hul.2 n hn)
            exact (hl.ok _ (wished_mem.mp hw).1).1
          walk_at "w"
          refine Or.inl ⟨b, l, 1 + j, u, rfl, hb, hl, hk1, hk2, huw, fun v hv => ?_⟩
          obtain rfl : u = v := steady_one (fun _ => Iff.rfl) (steady_self hb hl hu) hv
          rw [kept_self]
          walk_at "w"
          refine ⟨_, rfl, ?_⟩
          walk_at "w"
          refine ⟨_, rfl, ?_⟩
          walk_at "w"
          refine ⟨_, rfl, ?_⟩
          walk_at "zz"
          refine ⟨.tuple [.int (u.length : Int), .int (worthOf b l u), .tuple (u.map .str)], .tuple [.int (u.length : Int), .int (worthOf b l u), .tuple (u.map .str)], .tup (.cons (.int _) (.cons (.int _) (.cons (ns_of _) .nil))), ?_, st3_shaped _ _ _ huw, st3_shaped _ _ _ huw, ?_⟩
          · simp only [List.length_map]
            exact .tup (.cons (.int _) (.cons (.int _) (.cons (ns_of _) .nil)))
          rw [st3_eqv]
          walk_at "ss"
          walk_at "zz"
          refine loop_fold ([.int 0, .int 11, .bl true] : List Dt) id (fun (s : Unit) _ => s) () (fun _ Δ' st' => ∃ v13 v14 v15 v16 Δg σg, Δ' = [.dat (.fls (ns.map Dt.int)), .own p, .dat (.int (0 + (t0 : Int))), .dat (lstD ⟨S.C_Book, S.C_Rule, S.C_Listing, S.C_Sending⟩ l), .dat (b.d ⟨S.C_Book, S.C_Rule, S.C_Listing, S.C_Sending⟩), dI ((1 + j : Nat) : Int), .dat (nsD nm), v7, .dat (dicD winD (windows b l)), .own d, v10, v11, v12, v13, v14, v15, v16] ∧ st' = (d, Ob.lst (((c0 :: cs).map (stRow b l nm)).map fun r => .dat (stD r))) :: (g ++ [(p, obB q s), (q, obX xs), (S.tp_law, Ob.tbl (qLam "law") Δg σg)])) rfl ⟨_, _, _, _, _, _, rfl, rfl⟩ ?_ ?_
          · rintro pre x post _ Δ' st' has - ⟨v13, v14, v15, v16, Δg, σg, rfl, rfl⟩
            have hodd : OddK x := by
              have hx : x ∈ ([.int 0, .int 11, .bl true] : List Dt) := by rw [has]; simp
              simp only [List.mem_cons, List.not_mem_nil, or_false] at hx
              rcases hx with rfl | rfl | rfl
              · exact ⟨trivial, rfl⟩
              · exact ⟨trivial, rfl⟩
              · exact ⟨trivial, rfl⟩
            walk_at "w"
            have hix : ((d, Ob.lst (((c0 :: cs).map (stRow b l nm)).map fun r => .dat (stD r))) :: (g ++ [(p, obB q s), (q, obX xs), (S.tp_law, Ob.tbl (qLam "law") Δg σg)]))[g.length + 3]? = some (S.tp_law, Ob.tbl (qLam "law") Δg σg) := by
              rw [List.getElem?_cons_succ, List.getElem?_append_right (by omega), show g.length + 2 - g.length = 2 from by omega]
              rfl
            refine ⟨⟨g.length + 3, _, _, hix⟩, ?_⟩
            walk_at "w"
            refine ⟨g.length + 3, _, _, _, hix, fun σ => ?_⟩
            rw [List.set_cons_succ, List.set_append_right _ _ (by omega), show g.length + 2 - g.length = 2 from by omega]
            walk_at "w"
            refine ⟨lam_law_0, _, 0, g.length + 3, _, _, rfl, rfl, by rw [List.getElem?_cons_succ, List.getElem?_append_right (by omega), show g.length + 2 - g.length = 2 from by omega]; rfl, ?_⟩
            walk_at "w"
            refine Or.inr ⟨b, l, x, _, rfl, hodd, ?_⟩
            walk_at "w"
            refine ⟨true, S.em_InvalidNumber_RecorderError, fun _ a0 d0 hd0 => ?_, fun h => absurd h (by decide)⟩
            walk_at "w"
            refine ⟨S.C_InvalidNumber, [], false, rfl, rfl, Or.inl ⟨hd0 rfl, S.ec_InvalidNumber, S.ke_InvalidNumber_DaybookError⟩, ?_⟩
            walk_at "w"
            refine ⟨S.C_InvalidNumber, [], false, rfl, rfl, Or.inl ⟨hd0 rfl, S.ec_InvalidNumber, S.ke_InvalidNumber_DecodeError⟩, ?_⟩
            walk_at "w"
            refine ⟨S.C_InvalidNumber, [], rfl, rfl, hd0 rfl, S.ec_InvalidNumber, false, S.ke_InvalidNumber_DoubleName, ?_⟩
            walk_at "zz"
            walk_at "w"
            refine ⟨S.C_InvalidNumber, [], rfl, rfl, hd0 rfl, S.ec_InvalidNumber, false, S.ke_InvalidNumber_InvalidBook, ?_⟩
            walk_at "w"
            refine ⟨S.C_InvalidNumber, [], false, rfl, rfl, Or.inl ⟨hd0 rfl, S.ec_InvalidNumber, S.ke_InvalidNumber_InvalidBooks⟩, ?_⟩
            walk_at "zz"
            refine ⟨_, .app (.map _) (.map _), ?_⟩
            walk_at "w"
            refine ⟨S.C_InvalidNumber, [], false, rfl, rfl, Or.inl ⟨hd0 rfl, S.ec_InvalidNumber, S.ke_InvalidNumber_InvalidListing⟩, ?_⟩
            walk_at "w"
            refine ⟨S.C_InvalidNumber, [], false, rfl, rfl, Or.inl ⟨hd0 rfl, S.ec_InvalidNumber, S.ke_InvalidNumber_InvalidLog⟩, ?_⟩
            walk_at "zz"
            refine ⟨_, .app (.map _) (.map _), ?_⟩
            walk_at "w"
            refine ⟨S.C_InvalidNumber, [], rfl, rfl, hd0 rfl, S.ec_InvalidNumber, false, S.ke_InvalidNumber_InvalidName, ?_⟩
            walk_at "w"
            refine ⟨S.C_InvalidNumber, [], rfl, rfl, hd0 rfl, S.ec_InvalidNumber, true, S.ke_InvalidNumber_InvalidNumber, ?_⟩
            walk_at "zz"
            refine ⟨_, .app (.map _) (.map _), ?_⟩
            walk_at "w"
            refine ⟨S.C_InvalidNumber, [], false, rfl, rfl, Or.inl ⟨hd0 rfl, S.ec_InvalidNumber, S.ke_InvalidNumber_InvalidOperation⟩, ?_⟩
            walk_at "w"
            refine ⟨S.C_InvalidNumber, [], rfl, rfl, hd0 rfl, S.ec_InvalidNumber, false, S.ke_InvalidNumber_InvalidPool, ?_⟩
            walk_at "zz"
            refine ⟨_, .app (.map _) (.map _), ?_⟩
            walk_at "w"
            refine ⟨S.C_InvalidNumber, [], false, rfl, rfl, Or.inl ⟨hd0 rfl, S.ec_InvalidNumber, S.ke_InvalidNumber_InvalidRow⟩, ?_⟩
            walk_at "w"
            refine ⟨S.C_InvalidNumber, [], false, rfl, rfl, Or.inl ⟨hd0 rfl, S.ec_InvalidNumber, S.ke_InvalidNumber_InvalidRows⟩, ?_⟩
            walk_at "w"
            refine ⟨S.C_InvalidNumber, [], false, rfl, rfl, Or.inl ⟨hd0 rfl, S.ec_InvalidNumber, S.ke_InvalidNumber_InvalidRule⟩, ?_⟩
            walk_at "zz"
            refine ⟨_, .app (.map _) (.map _), ?_⟩
            walk_at "w"
            refine ⟨S.C_InvalidNumber, [], false, rfl, rfl, Or.inl ⟨hd0 rfl, S.ec_InvalidNumber, S.ke_InvalidNumber_InvalidSending⟩, ?_⟩
            walk_at "w"
            refine ⟨S.C_InvalidNumber, [], rfl, rfl, hd0 rfl, S.ec_InvalidNumber, false, S.ke_InvalidNumber_InvalidSpan, ?_⟩
            walk_at "w"
            refine ⟨S.C_InvalidNumber, [], rfl, rfl, hd0 rfl, S.ec_InvalidNumber, false, S.ke_InvalidNumber_NoDelay, ?_⟩
            walk_at "zz"
            refine ⟨_, .app (.map _) (.map _), ?_⟩
            walk_at "w"
            refine ⟨S.C_InvalidNumber, [], rfl, rfl, hd0 rfl, S.ec_InvalidNumber, false, S.ke_InvalidNumber_NoFit, ?_⟩
            walk_at "w"
            refine ⟨S.C_InvalidNumber, [], rfl, rfl, hd0 rfl, S.ec_InvalidNumber, false, S.ke_InvalidNumber_UnknownChannel, ?_⟩
            walk_at "w"
            refine ⟨S.C_InvalidNumber, [], rfl, rfl, hd0 rfl, S.ec_InvalidNumber, false, S.ke_InvalidNumber_UnknownMark, ?_⟩
            walk_at "zz"
            refine ⟨_, .app (.map _) (.map _), ?_⟩
            walk_at "w"
            refine ⟨S.C_InvalidNumber, [], rfl, rfl, hd0 rfl, S.ec_InvalidNumber, false, S.ke_InvalidNumber_UnknownName, ?_⟩
            walk_at "zz"
            refine ⟨_, .app (.map _) (.map _), ?_⟩
            walk_at "zz"
            intro nm1 hnm1
            walk_at "w"
            refine ⟨⟨0, _, rfl⟩, ?_⟩
            walk_at "w"
            refine ⟨0, _, rfl, by simp [sizeLine_eq], ?_⟩
            walk_at "zz"
            refine ⟨0, _, rfl, ?_⟩
            walk_at "zz"
            intro nm2 hnm2
            walk_at "zz"
            refine ⟨0, _, rfl, ?_⟩
            walk_at "zz"
            intro nm3 hnm3
            walk_at "zz"
            refine ⟨0, _, rfl, ?_⟩
            walk_at "zz"
            intro nm4 hnm4
            walk_at "w"
            refine ⟨.bool true, ([false, false, false, false, false, false, false, false, true, false, false, false, false, false, false, false, false, false, false, false, false] : List Bool).map .bool, .bl _, (show PyOfs (([false, false, false, false, false, false, false, false, true, false, false, false, false, false, false, false, false, false, false, false, false] : List Bool).map Dt.bl) _ from bls_of _), bls_shaped _, bl_sh _, ?_⟩
            rw [bls_count]
            walk_at "ss"
            refine ⟨S.C_InvalidNumber, [], rfl, rfl, hd0 rfl, S.ec_InvalidNumber, true, S.kv_InvalidNumber, ?_⟩
            walk_at "ss"
            refine ⟨.bool true, ([false, false, false, false, false, false, false, false, true, false, false, false, false, false, false, false, false, false, false, false, false] : List Bool).map .bool, 8, .bool true, .bl _, (show PyOfs (([false, false, false, false, false, false, false, false, true, false, false, false, false, false, false, false, false, false, false, false, false] : List Bool).map Dt.bl) _ from bls_of _), bls_shaped _, bl_sh _, rfl, by rw [bl_eqv]; rfl, bls_first _ _ (by decide), ?_⟩
            walk_at "w"
            refine ⟨0, _, rfl, ?_⟩
            walk_at "w"
            refine ⟨.dat (.str "InvalidNumber"), rfl, ?_⟩
            walk_at "w"
            refine ⟨_, rfl, ?_⟩
            walk_at "ss"
            refine ⟨_, _, .keep (.cons _ (.cons _ (.cons _ (.cons _ (List.Sublist.refl _))))), ?_⟩
            walk_at "ss"
            -- end err
            exact ⟨_, _, _, _, _, _, rfl, rfl⟩
          · rintro Δ' st' ⟨v13, v14, v15, v16, Δg, σg, rfl, rfl⟩
            walk_at "w"
            exact ⟨_, _, _, _, _, _, _, _, _, _, _, _, _, _, _, (d, _) :: g, s, xs, Δg, σg, rfl, rfl, hx⟩
    · rintro Δ' st' ⟨v2, v3, v4, v5, v6, v7, v8, v9, v10, v11, v12, v13, v14, v15, v16, g, s, xs, Δg, σg, rfl, rfl, hx⟩
      walk_at "w"
      exact ⟨_, [], .keep (List.nil_sublist _), k⟩
end
end K32
set_option maxHeartbeats 0
open PySem PySem.Spec PySem.W PyProof.Rows L2
def looseN_K32 : List PySem.Str := (["_wall", "__name__", "RecorderError", "InvalidSending", "InvalidListing", "UnknownName", "InvalidRule", "InvalidBook", "NotWished", "InvalidNumber", "InvalidPool", "InvalidLog", "NoFit", "InvalidBooks", "UnknownChannel", "NoDelay", "InvalidRows", "InvalidSpan", "DoubleName", "InvalidName", "UnknownMark", "InvalidOperation", "InvalidRow", "DecodeError", "DaybookError", "GREATEST_EPISODE", "MOST_RECEIVERS", "is_word", "is_number", "is_receivers", "check_receivers", "episode_of", "rule_for", "wished_names", "window", "wished_windows", "no_episode_twice", "subsets", "open_at", "most_at_once", "without_doubles", "choices_among", "all_choices", "worth", "steady_choice", "MOST_RULES", "GREATEST_PRIORITY", "MOST_PADDING", "wrong_part", "wrong_part_books", "Rule", "Book", "MOST_SENDINGS", "LATEST_BEGIN", "LATEST_END", "MOST_LATE", "wrong_part_listings", "Sending", "Listing", "_law_begun", "_law_take", "_law_alike", "_law_sending", "_law_listing", "_law_rule", "_law_wishes_of", "_law_rule_of", "_law_windows", "_law_choices", "_law_most", "_law_error", "_law_named"] : List String).map PySem.Str.ofString
local macro_rules | `(tactic| o_head (kmHook $k $a $e $t)) => `(tactic| (refine HeadRun.head_any (r := (PySem.W.OpenLaw.row PySem.Challenge.rw_fewtuners_k32_whole_choices_that_keep)) (q := view (PySem.W.OpenLaw.row PySem.Challenge.rw_fewtuners_k32_whole_choices_that_keep).prog [82]) (H := kmHook $k $a $e $t) (ob := (fun s => (List.map (HeadRun.getT s) $a, List.map (HeadRun.getT s) $t))) (M := 40000) (loose := looseN_K32) (d := HeadRun.topDef (PySem.W.OpenLaw.row PySem.Challenge.rw_fewtuners_k32_whole_choices_that_keep).prog 82) (kwd := []) (fun s => Prod.ext (List.map_congr_left fun a _ => HeadRun.getT_eq s a) (List.map_congr_left fun a _ => HeadRun.getT_eq s a)) (by kernel_rfl) (fun s => by kernel_rfl) (fun w => by intro os; kernel_rfl) (by kernel_rfl) (by kernel_rfl) (by kernel_rfl) (by rfl) (by first | assumption | decide +kernel) (by decide +kernel) ⟨rfl, rfl, rfl, rfl, rfl, by decide +kernel⟩ ?hw ?hc))
theorem K32_en {KK : PySem.W.Frag} {mg : Str → Option Value} {f : Addr} {P : Program} {w : World} (S : K32.En KK mg) (e : mg "law" = some (.ref f)) : ∃ fd : FuncData, (∀ (s : Shared) (u : Value), BindsTo s fd ⟨[u], []⟩ [("_law_script", u)]) ∧ ∀ base : Heap, KK.In base → base.Ns mainGlobals mg → LamX.TabB base mg S.tc_law S.tp_law → FnOk P w KK mg base (L2.CX P w) 11 f fd ["_law_script"] (DD.lowF KK (DD.ctLawT S.tp_law)) := by
  have z : S.f_law = f := by
    have q := S.g_law.symm.trans e
    cases q
    rfl
  subst z
  refine ⟨S.d_law, ?_, fun base _ _ T => K32.ok_law S T⟩
  intro s u
  obtain ⟨⟨oc, od, kV, doc, pm, an, cdv, ct, osl, e, l, c⟩, k⟩ := S.F_law
  rw [e]
  exact .of_eq (by rfl)
theorem DD.tab_K {K : PySem.W.Frag} {ts : List Addr} {h : Heap} (E : PySem.W.Frag → Type) (tc : ∀ {K}, E K → Addr) (T : ∀ p ∈ ts, h.get? p = some (PySem.W.tabObj #[])) (X : K.In h) (S : E K) (e : List.elem (He.tabOf K (tc S)) ts = true) : ∃ S : E K, h.get? (He.tabOf K (tc S)) = some (PySem.W.tabObj #[]) := ⟨S, T _ (List.elem_iff.mp e)⟩
theorem PySem.Challenge.cw_fewtuners_k32_whole_choices_that_keep_holds : PySem.Challenge.rw_fewtuners_k32_whole_choices_that_keep.Holds := by
  w_on; o_law; k_head
  case hw => w_witness2
  case hc =>
    k_fill
    refine LamX.walk_ofTs (l := PySem.Challenge.rw_fewtuners_k32_whole_choices_that_keep) (n := 63) (k := 11) (x := "_law_script") (CX := fun w => L2.CX PySem.Challenge.rw_fewtuners_k32_whole_choices_that_keep.prog w) rfl (by decide) rfl ⟨rfl, by decide, by decide⟩ (fun w h Y => PySem.W.km_in_of Y) ?F (fun _ _ _ _ _ z => DD.cx_none z)
    case F =>
      intro w mg fa h Y KX G hmg
      have T := PySem.W.km_tabs_of Y
      obtain ⟨S, hT⟩ := DD.tab_K (fun KK => K32.En KK mg) (fun S => S.tc_law) T KX {
        n_ValueError := PySem.W.mg_none_of KX G (by k_is)
        n_len := PySem.W.mg_none_of KX G (by k_is)
        n_int := PySem.W.mg_none_of KX G (by k_is)
        n_bool := PySem.W.mg_none_of KX G (by k_is)
        n_str := PySem.W.mg_none_of KX G (by k_is)
        n_list := PySem.W.mg_none_of KX G (by k_is)
        n_tuple := PySem.W.mg_none_of KX G (by k_is)
        n_dict := PySem.W.mg_none_of KX G (by k_is)
        n_range := PySem.W.mg_none_of KX G (by k_is)
        n_isinstance := PySem.W.mg_none_of KX G (by k_is)
        n_max := PySem.W.mg_none_of KX G (by k_is)
        n_min := PySem.W.mg_none_of KX G (by k_is)
        n_all := PySem.W.mg_none_of KX G (by k_is)
        n_sorted := PySem.W.mg_none_of KX G (by k_is)
        n_sum := PySem.W.mg_none_of KX G (by k_is)
        u_GREATEST_EPISODE := _
        c_GREATEST_EPISODE := PySem.W.mg_of KX G (by k_is)
        r_GREATEST_EPISODE := ⟨_, rfl⟩
        u_MOST_RECEIVERS := _
        c_MOST_RECEIVERS := PySem.W.mg_of KX G (by k_is)
        r_MOST_RECEIVERS := ⟨_, rfl⟩
        u_MOST_RULES := _
        c_MOST_RULES := PySem.W.mg_of KX G (by k_is)
        r_MOST_RULES := ⟨_, rfl⟩
        u_GREATEST_PRIORITY := _
        c_GREATEST_PRIORITY := PySem.W.mg_of KX G (by k_is)
        r_GREATEST_PRIORITY := ⟨_, rfl⟩
        u_MOST_PADDING := _
        c_MOST_PADDING := PySem.W.mg_of KX G (by k_is)
        r_MOST_PADDING := ⟨_, rfl⟩
        u_MOST_SENDINGS := _
        c_MOST_SENDINGS := PySem.W.mg_of KX G (by k_is)
        r_MOST_SENDINGS := ⟨_, rfl⟩
        u_LATEST_BEGIN := _
        c_LATEST_BEGIN := PySem.W.mg_of KX G (by k_is)
        r_LATEST_BEGIN := ⟨_, rfl⟩
        u_LATEST_END := _
        c_LATEST_END := PySem.W.mg_of KX G (by k_is)
        r_LATEST_END := ⟨_, rfl⟩
        u_MOST_LATE := _
        c_MOST_LATE := PySem.W.mg_of KX G (by k_is)
        r_MOST_LATE := ⟨_, rfl⟩
        f_is_word := _
        g_is_word := PySem.W.mg_of KX G (by k_is)
        d_is_word := _
        F_is_word := fun_mk (by k_is) (by k_is) (by k_is)
        f_is_number := _
        g_is_number := PySem.W.mg_of KX G (by k_is)
        d_is_number := _
        F_is_number := fun_mk (by k_is) (by k_is) (by k_is)
        f_is_receivers := _
        g_is_receivers := PySem.W.mg_of KX G (by k_is)
        d_is_receivers := _
        F_is_receivers := fun_mk (by k_is) (by k_is) (by k_is)
        f_check_receivers := _
        g_check_receivers := PySem.W.mg_of KX G (by k_is)
        d_check_receivers := _
        F_check_receivers := fun_mk (by k_is) (by k_is) (by k_is)
        f_episode_of := _
        g_episode_of := PySem.W.mg_of KX G (by k_is)
        d_episode_of := _
        F_episode_of := fun_mk (by k_is) (by k_is) (by k_is)
        f_rule_for := _
        g_rule_for := PySem.W.mg_of KX G (by k_is)
        d_rule_for := _
        F_rule_for := fun_mk (by k_is) (by k_is) (by k_is)
        f_wished_names := _
        g_wished_names := PySem.W.mg_of KX G (by k_is)
        d_wished_names := _
        F_wished_names := fun_mk (by k_is) (by k_is) (by k_is)
        f_window := _
        g_window := PySem.W.mg_of KX G (by k_is)
        d_window := _
        F_window := fun_mk (by k_is) (by k_is) (by k_is)
        f_wished_windows := _
        g_wished_windows := PySem.W.mg_of KX G (by k_is)
        d_wished_windows := _
        F_wished_windows := fun_mk (by k_is) (by k_is) (by k_is)
        f_no_episode_twice := _
        g_no_episode_twice := PySem.W.mg_of KX G (by k_is)
        d_no_episode_twice := _
        F_no_episode_twice := fun_mk (by k_is) (by k_is) (by k_is)
        f_subsets := _
        g_subsets := PySem.W.mg_of KX G (by k_is)
        d_subsets := _
        F_subsets := fun_mk (by k_is) (by k_is) (by k_is)
        f_open_at := _
        g_open_at := PySem.W.mg_of KX G (by k_is)
        d_open_at := _
        F_open_at := fun_mk (by k_is) (by k_is) (by k_is)
        f_most_at_once := _
        g_most_at_once := PySem.W.mg_of KX G (by k_is)
        d_most_at_once := _
        F_most_at_once := fun_mk (by k_is) (by k_is) (by k_is)
        f_without_doubles := _
        g_without_doubles := PySem.W.mg_of KX G (by k_is)
        d_without_doubles := _
        F_without_doubles := fun_mk (by k_is) (by k_is) (by k_is)
        f_choices_among := _
        g_choices_among := PySem.W.mg_of KX G (by k_is)
        d_choices_among := _
        F_choices_among := fun_mk (by k_is) (by k_is) (by k_is)
        f_all_choices := _
        g_all_choices := PySem.W.mg_of KX G (by k_is)
        d_all_choices := _
        F_all_choices := fun_mk (by k_is) (by k_is) (by k_is)
        f_worth := _
        g_worth := PySem.W.mg_of KX G (by k_is)
        d_worth := _
        F_worth := fun_mk (by k_is) (by k_is) (by k_is)
        f_steady_choice := _
        g_steady_choice := PySem.W.mg_of KX G (by k_is)
        d_steady_choice := _
        F_steady_choice := fun_mk (by k_is) (by k_is) (by k_is)
        f_wrong_part_books := _
        g_wrong_part_books := PySem.W.mg_of KX G (by k_is)
        d_wrong_part_books := _
        F_wrong_part_books := fun_mk (by k_is) (by k_is) (by k_is)
        f_wrong_part_listings := _
        g_wrong_part_listings := PySem.W.mg_of KX G (by k_is)
        d_wrong_part_listings := _
        F_wrong_part_listings := fun_mk (by k_is) (by k_is) (by k_is)
        f_law_begun := _
        g_law_begun := PySem.W.mg_of KX G (by k_is)
        d_law_begun := _
        F_law_begun := fun_mk (by k_is) (by k_is) (by k_is)
        f_law_take := _
        g_law_take := PySem.W.mg_of KX G (by k_is)
        d_law_take := _
        F_law_take := fun_mk (by k_is) (by k_is) (by k_is)
        f_law_alike := _
        g_law_alike := PySem.W.mg_of KX G (by k_is)
        d_law_alike := _
        F_law_alike := fun_mk (by k_is) (by k_is) (by k_is)
        f_law_sending := _
        g_law_sending := PySem.W.mg_of KX G (by k_is)
        d_law_sending := _
        F_law_sending := fun_mk (by k_is) (by k_is) (by k_is)
        f_law_listing := _
        g_law_listing := PySem.W.mg_of KX G (by k_is)
        d_law_listing := _
        F_law_listing := fun_mk (by k_is) (by k_is) (by k_is)
        f_law_rule := _
        g_law_rule := PySem.W.mg_of KX G (by k_is)
        d_law_rule := _
        F_law_rule := fun_mk (by k_is) (by k_is) (by k_is)
        f_law_wishes_of := _
        g_law_wishes_of := PySem.W.mg_of KX G (by k_is)
        d_law_wishes_of := _
        F_law_wishes_of := fun_mk (by k_is) (by k_is) (by k_is)
        f_law_rule_of := _
        g_law_rule_of := PySem.W.mg_of KX G (by k_is)
        d_law_rule_of := _
        F_law_rule_of := fun_mk (by k_is) (by k_is) (by k_is)
        f_law_windows := _
        g_law_windows := PySem.W.mg_of KX G (by k_is)
        d_law_windows := _
        F_law_windows := fun_mk (by k_is) (by k_is) (by k_is)
        f_law_choices := _
        g_law_choices := PySem.W.mg_of KX G (by k_is)
        d_law_choices := _
        F_law_choices := fun_mk (by k_is) (by k_is) (by k_is)
        f_law_most := _
        g_law_most := PySem.W.mg_of KX G (by k_is)
        d_law_most := _
        F_law_most := fun_mk (by k_is) (by k_is) (by k_is)
        f_law_error := _
        g_law_error := PySem.W.mg_of KX G (by k_is)
        d_law_error := _
        F_law_error := fun_mk (by k_is) (by k_is) (by k_is)
        f_law_named := _
        g_law_named := PySem.W.mg_of KX G (by k_is)
        d_law_named := _
        F_law_named := fun_mk (by k_is) (by k_is) (by k_is)
        f_law := _
        g_law := PySem.W.mg_of KX G (by k_is)
        d_law := _
        F_law := fun_mk (by k_is) (by k_is) (by k_is)
        C_Rule := _
        g_Rule := PySem.W.mg_of KX G (by k_is)
        cl_Rule := ⟨by k_is, by k_is, by k_is, by k_is⟩
        in_Rule := ⟨⟨by k_is, by k_is, by k_is, by k_is⟩, by k_is, by k_is, by k_is, by k_is⟩
        f_Rule_init := _
        mk_Rule := ⟨by k_is, by k_is, by k_is, by k_is⟩
        d_Rule_init := _
        F_Rule_init := DD.fund_mk (its := [_, _]) (by k_is) (by k_is) (by k_is) (by k_is) (by decide) (.cons ⟨_, rfl⟩ (.cons ⟨_, rfl⟩ (.nil)))
        f_Rule_show := _
        q_Rule_show := _
        p_Rule_show := ⟨by k_is, by k_is, by k_is, _, by k_is⟩
        d_Rule_show := _
        F_Rule_show := fun_mk (by k_is) (by k_is) (by k_is)
        f_Rule_first := _
        q_Rule_first := _
        p_Rule_first := ⟨by k_is, by k_is, by k_is, _, by k_is⟩
        d_Rule_first := _
        F_Rule_first := fun_mk (by k_is) (by k_is) (by k_is)
        f_Rule_last := _
        q_Rule_last := _
        p_Rule_last := ⟨by k_is, by k_is, by k_is, _, by k_is⟩
        d_Rule_last := _
        F_Rule_last := fun_mk (by k_is) (by k_is) (by k_is)
        f_Rule_priority := _
        q_Rule_priority := _
        p_Rule_priority := ⟨by k_is, by k_is, by k_is, _, by k_is⟩
        d_Rule_priority := _
        F_Rule_priority := fun_mk (by k_is) (by k_is) (by k_is)
        f_Rule_before := _
        q_Rule_before := _
        p_Rule_before := ⟨by k_is, by k_is, by k_is, _, by k_is⟩
        d_Rule_before := _
        F_Rule_before := fun_mk (by k_is) (by k_is) (by k_is)
        f_Rule_after := _
        q_Rule_after := _
        p_Rule_after := ⟨by k_is, by k_is, by k_is, _, by k_is⟩
        d_Rule_after := _
        F_Rule_after := fun_mk (by k_is) (by k_is) (by k_is)
        f_Rule_eq := _
        e_Rule_eq := by k_is
        fn_Rule_eq := by k_is
        ne_Rule := DD.nec_of (by k_is) (by kernel_rfl) (by k_is) (by k_is) (by k_is) rfl
        d_Rule_eq := _
        F_Rule_eq := fun_mk (by k_is) (by k_is) (by k_is)
        na_Rule_show := DD.na_of (by k_is)
        na_Rule_first := DD.na_of (by k_is)
        na_Rule_last := DD.na_of (by k_is)
        na_Rule_priority := DD.na_of (by k_is)
        na_Rule_before := DD.na_of (by k_is)
        na_Rule_after := DD.na_of (by k_is)
        C_Book := _
        g_Book := PySem.W.mg_of KX G (by k_is)
        cl_Book := ⟨by k_is, by k_is, by k_is, by k_is⟩
        in_Book := ⟨⟨by k_is, by k_is, by k_is, by k_is⟩, by k_is, by k_is, by k_is, by k_is⟩
        f_Book_init := _
        mk_Book := ⟨by k_is, by k_is, by k_is, by k_is⟩
        d_Book_init := _
        a_Book_init := _
        F_Book_init := DD.fund_mk (its := [_]) (by k_is) (by k_is) (by k_is) (by k_is) (by decide) (.cons rfl (.nil))
        kt_Book_init := ⟨_, _, by k_is, rfl, rfl⟩
        f_Book_rules := _
        q_Book_rules := _
        p_Book_rules := ⟨by k_is, by k_is, by k_is, _, by k_is⟩
        d_Book_rules := _
        F_Book_rules := fun_mk (by k_is) (by k_is) (by k_is)
        f_Book_seen := _
        q_Book_seen := _
        p_Book_seen := ⟨by k_is, by k_is, by k_is, _, by k_is⟩
        d_Book_seen := _
        F_Book_seen := fun_mk (by k_is) (by k_is) (by k_is)
        f_Book_rule_of := _
        m_Book_rule_of := ⟨by k_is, by k_is, by k_is⟩
        d_Book_rule_of := _
        F_Book_rule_of := fun_mk (by k_is) (by k_is) (by k_is)
        f_Book_eq := _
        e_Book_eq := by k_is
        fn_Book_eq := by k_is
        ne_Book := DD.nec_of (by k_is) (by kernel_rfl) (by k_is) (by k_is) (by k_is) rfl
        d_Book_eq := _
        F_Book_eq := fun_mk (by k_is) (by k_is) (by k_is)
        na_Book_rules := DD.na_of (by k_is)
        na_Book_seen := DD.na_of (by k_is)
        C_Sending := _
        g_Sending := PySem.W.mg_of KX G (by k_is)
        cl_Sending := ⟨by k_is, by k_is, by k_is, by k_is⟩
        in_Sending := ⟨⟨by k_is, by k_is, by k_is, by k_is⟩, by k_is, by k_is, by k_is, by k_is⟩
        f_Sending_init := _
        mk_Sending := ⟨by k_is, by k_is, by k_is, by k_is⟩
        d_Sending_init := _
        F_Sending_init := DD.fund_mk (its := [_]) (by k_is) (by k_is) (by k_is) (by k_is) (by decide) (.cons ⟨_, rfl⟩ (.nil))
        f_Sending_channel := _
        q_Sending_channel := _
        p_Sending_channel := ⟨by k_is, by k_is, by k_is, _, by k_is⟩
        d_Sending_channel := _
        F_Sending_channel := fun_mk (by k_is) (by k_is) (by k_is)
        f_Sending_show := _
        q_Sending_show := _
        p_Sending_show := ⟨by k_is, by k_is, by k_is, _, by k_is⟩
        d_Sending_show := _
        F_Sending_show := fun_mk (by k_is) (by k_is) (by k_is)
        f_Sending_episode := _
        q_Sending_episode := _
        p_Sending_episode := ⟨by k_is, by k_is, by k_is, _, by k_is⟩
        d_Sending_episode := _
        F_Sending_episode := fun_mk (by k_is) (by k_is) (by k_is)
        f_Sending_begin := _
        q_Sending_begin := _
        p_Sending_begin := ⟨by k_is, by k_is, by k_is, _, by k_is⟩
        d_Sending_begin := _
        F_Sending_begin := fun_mk (by k_is) (by k_is) (by k_is)
        f_Sending_end := _
        q_Sending_end := _
        p_Sending_end := ⟨by k_is, by k_is, by k_is, _, by k_is⟩
        d_Sending_end := _
        F_Sending_end := fun_mk (by k_is) (by k_is) (by k_is)
        f_Sending_late := _
        q_Sending_late := _
        p_Sending_late := ⟨by k_is, by k_is, by k_is, _, by k_is⟩
        d_Sending_late := _
        F_Sending_late := fun_mk (by k_is) (by k_is) (by k_is)
        f_Sending_eq := _
        e_Sending_eq := by k_is
        fn_Sending_eq := by k_is
        ne_Sending := DD.nec_of (by k_is) (by kernel_rfl) (by k_is) (by k_is) (by k_is) rfl
        d_Sending_eq := _
        F_Sending_eq := fun_mk (by k_is) (by k_is) (by k_is)
        na_Sending_channel := DD.na_of (by k_is)
        na_Sending_show := DD.na_of (by k_is)
        na_Sending_episode := DD.na_of (by k_is)
        na_Sending_begin := DD.na_of (by k_is)
        na_Sending_end := DD.na_of (by k_is)
        na_Sending_late := DD.na_of (by k_is)
        C_Listing := _
        g_Listing := PySem.W.mg_of KX G (by k_is)
        cl_Listing := ⟨by k_is, by k_is, by k_is, by k_is⟩
        in_Listing := ⟨⟨by k_is, by k_is, by k_is, by k_is⟩, by k_is, by k_is, by k_is, by k_is⟩
        f_Listing_init := _
        mk_Listing := ⟨by k_is, by k_is, by k_is, by k_is⟩
        d_Listing_init := _
        F_Listing_init := fun_mk (by k_is) (by k_is) (by k_is)
        f_Listing_names := _
        q_Listing_names := _
        p_Listing_names := ⟨by k_is, by k_is, by k_is, _, by k_is⟩
        d_Listing_names := _
        F_Listing_names := fun_mk (by k_is) (by k_is) (by k_is)
        f_Listing_sendings := _
        q_Listing_sendings := _
        p_Listing_sendings := ⟨by k_is, by k_is, by k_is, _, by k_is⟩
        d_Listing_sendings := _
        F_Listing_sendings := fun_mk (by k_is) (by k_is) (by k_is)
        f_Listing_getitem := _
        sg_Listing_getitem := by k_is
        fi_Listing_getitem := by k_is
        fn_Listing_getitem := by k_is
        d_Listing_getitem := _
        F_Listing_getitem := fun_mk (by k_is) (by k_is) (by k_is)
        f_Listing_contains := _
        sg_Listing_contains := by k_is
        fi_Listing_contains := by k_is
        fn_Listing_contains := by k_is
        d_Listing_contains := _
        F_Listing_contains := fun_mk (by k_is) (by k_is) (by k_is)
        f_Listing_len := _
        sg_Listing_len := by k_is
        fi_Listing_len := by k_is
        fn_Listing_len := by k_is
        d_Listing_len := _
        F_Listing_len := fun_mk (by k_is) (by k_is) (by k_is)
        f_Listing_eq := _
        e_Listing_eq := by k_is
        fn_Listing_eq := by k_is
        ne_Listing := DD.nec_of (by k_is) (by kernel_rfl) (by k_is) (by k_is) (by k_is) rfl
        d_Listing_eq := _
        F_Listing_eq := fun_mk (by k_is) (by k_is) (by k_is)
        na_Listing_sendings := DD.na_of (by k_is)
        tc_law := _
        dc_law := rfl
        h_law := by kernel_rfl
        n_tp := by kernel_rfl
        ki_Rule_Rule := DD.kit_same
        ki_Book_Rule := DD.kit_cr (by decide) (by k_is) (by k_is) (by k_is)
        ki_Sending_Rule := DD.kit_cr (by decide) (by k_is) (by k_is) (by k_is)
        ki_Listing_Rule := DD.kit_cr (by decide) (by k_is) (by k_is) (by k_is)
        kb_NoneType_Rule := DD.kit_cr (by rfl) (by k_is) (by k_is) (by k_is)
        kb_bool_Rule := DD.kit_cr (by rfl) (by k_is) (by k_is) (by k_is)
        kb_int_Rule := DD.kit_cr (by rfl) (by k_is) (by k_is) (by k_is)
        kb_str_Rule := DD.kit_cr (by rfl) (by k_is) (by k_is) (by k_is)
        kb_list_Rule := DD.kit_cr (by rfl) (by k_is) (by k_is) (by k_is)
        kb_tuple_Rule := DD.kit_cr (by rfl) (by k_is) (by k_is) (by k_is)
        kb_dict_Rule := DD.kit_cr (by rfl) (by k_is) (by k_is) (by k_is)
        ko_Rule_bool := DD.kit_ct (by kernel_rfl) (by k_is)
        ko_Rule_int := DD.kit_ct (by kernel_rfl) (by k_is)
        ko_Rule_str := DD.kit_ct (by kernel_rfl) (by k_is)
        ko_Rule_list := DD.kit_ct (by kernel_rfl) (by k_is)
        ko_Rule_tuple := DD.kit_ct (by kernel_rfl) (by k_is)
        ki_Rule_Book := DD.kit_cr (by decide) (by k_is) (by k_is) (by k_is)
        ki_Book_Book := DD.kit_same
        ki_Sending_Book := DD.kit_cr (by decide) (by k_is) (by k_is) (by k_is)
        ki_Listing_Book := DD.kit_cr (by decide) (by k_is) (by k_is) (by k_is)
        kb_NoneType_Book := DD.kit_cr (by rfl) (by k_is) (by k_is) (by k_is)
        kb_bool_Book := DD.kit_cr (by rfl) (by k_is) (by k_is) (by k_is)
        kb_int_Book := DD.kit_cr (by rfl) (by k_is) (by k_is) (by k_is)
        kb_str_Book := DD.kit_cr (by rfl) (by k_is) (by k_is) (by k_is)
        kb_list_Book := DD.kit_cr (by rfl) (by k_is) (by k_is) (by k_is)
        kb_tuple_Book := DD.kit_cr (by rfl) (by k_is) (by k_is) (by k_is)
        kb_dict_Book := DD.kit_cr (by rfl) (by k_is) (by k_is) (by k_is)
        ko_Book_bool := DD.kit_ct (by kernel_rfl) (by k_is)
        ko_Book_int := DD.kit_ct (by kernel_rfl) (by k_is)
        ko_Book_str := DD.kit_ct (by kernel_rfl) (by k_is)
        ko_Book_list := DD.kit_ct (by kernel_rfl) (by k_is)
        ko_Book_tuple := DD.kit_ct (by kernel_rfl) (by k_is)
        ki_Rule_Sending := DD.kit_cr (by decide) (by k_is) (by k_is) (by k_is)
        ki_Book_Sending := DD.kit_cr (by decide) (by k_is) (by k_is) (by k_is)
        ki_Sending_Sending := DD.kit_same
        ki_Listing_Sending := DD.kit_cr (by decide) (by k_is) (by k_is) (by k_is)
        kb_NoneType_Sending := DD.kit_cr (by rfl) (by k_is) (by k_is) (by k_is)
        kb_bool_Sending := DD.kit_cr (by rfl) (by k_is) (by k_is) (by k_is)
        kb_int_Sending := DD.kit_cr (by rfl) (by k_is) (by k_is) (by k_is)
        kb_str_Sending := DD.kit_cr (by rfl) (by k_is) (by k_is) (by k_is)
        kb_list_Sending := DD.kit_cr (by rfl) (by k_is) (by k_is) (by k_is)
        kb_tuple_Sending := DD.kit_cr (by rfl) (by k_is) (by k_is) (by k_is)
        kb_dict_Sending := DD.kit_cr (by rfl) (by k_is) (by k_is) (by k_is)
        ko_Sending_bool := DD.kit_ct (by kernel_rfl) (by k_is)
        ko_Sending_int := DD.kit_ct (by kernel_rfl) (by k_is)
        ko_Sending_str := DD.kit_ct (by kernel_rfl) (by k_is)
        ko_Sending_list := DD.kit_ct (by kernel_rfl) (by k_is)
        ko_Sending_tuple := DD.kit_ct (by kernel_rfl) (by k_is)
        ki_Rule_Listing := DD.kit_cr (by decide) (by k_is) (by k_is) (by k_is)
        ki_Book_Listing := DD.kit_cr (by decide) (by k_is) (by k_is) (by k_is)
        ki_Sending_Listing := DD.kit_cr (by decide) (by k_is) (by k_is) (by k_is)
        ki_Listing_Listing := DD.kit_same
        kb_NoneType_Listing := DD.kit_cr (by rfl) (by k_is) (by k_is) (by k_is)
        kb_bool_Listing := DD.kit_cr (by rfl) (by k_is) (by k_is) (by k_is)
        kb_int_Listing := DD.kit_cr (by rfl) (by k_is) (by k_is) (by k_is)
        kb_str_Listing := DD.kit_cr (by rfl) (by k_is) (by k_is) (by k_is)
        kb_list_Listing := DD.kit_cr (by rfl) (by k_is) (by k_is) (by k_is)
        kb_tuple_Listing := DD.kit_cr (by rfl) (by k_is) (by k_is) (by k_is)
        kb_dict_Listing := DD.kit_cr (by rfl) (by k_is) (by k_is) (by k_is)
        ko_Listing_bool := DD.kit_ct (by kernel_rfl) (by k_is)
        ko_Listing_int := DD.kit_ct (by kernel_rfl) (by k_is)
        ko_Listing_str := DD.kit_ct (by kernel_rfl) (by k_is)
        ko_Listing_list := DD.kit_ct (by kernel_rfl) (by k_is)
        ko_Listing_tuple := DD.kit_ct (by kernel_rfl) (by k_is)
        C_RecorderError := _
        g_RecorderError := PySem.W.mg_of KX G (by k_is)
        kc_RecorderError := by k_is
        C_InvalidSending := _
        g_InvalidSending := PySem.W.mg_of KX G (by k_is)
        kc_InvalidSending := by k_is
        r_InvalidSending := by k_is
        ty_InvalidSending := by k_is
        f_InvalidSending_init := _
        T_InvalidSending := DD.oex_of (by k_is) (by kernel_rfl) (by k_is) (by k_is) (by k_is) (by k_is)
        i_InvalidSending := by k_is
        t_InvalidSending := by k_is
        X_InvalidSending := ⟨by k_is, by k_is, by k_is, by k_is⟩
        nf_InvalidSending := by k_is
        d_InvalidSending_init := _
        F_InvalidSending_init := fun_mk (by k_is) (by k_is) (by k_is)
        C_InvalidListing := _
        g_InvalidListing := PySem.W.mg_of KX G (by k_is)
        kc_InvalidListing := by k_is
        r_InvalidListing := by k_is
        ty_InvalidListing := by k_is
        f_InvalidListing_init := _
        T_InvalidListing := DD.oex_of (by k_is) (by kernel_rfl) (by k_is) (by k_is) (by k_is) (by k_is)
        i_InvalidListing := by k_is
        t_InvalidListing := by k_is
        X_InvalidListing := ⟨by k_is, by k_is, by k_is, by k_is⟩
        nf_InvalidListing := by k_is
        d_InvalidListing_init := _
        F_InvalidListing_init := fun_mk (by k_is) (by k_is) (by k_is)
        C_UnknownName := _
        g_UnknownName := PySem.W.mg_of KX G (by k_is)
        kc_UnknownName := by k_is
        r_UnknownName := by k_is
        ty_UnknownName := by k_is
        x_UnknownName := by kernel_rfl
        C_InvalidRule := _
        g_InvalidRule := PySem.W.mg_of KX G (by k_is)
        kc_InvalidRule := by k_is
        r_InvalidRule := by k_is
        ty_InvalidRule := by k_is
        f_InvalidRule_init := _
        T_InvalidRule := DD.oex_of (by k_is) (by kernel_rfl) (by k_is) (by k_is) (by k_is) (by k_is)
        i_InvalidRule := by k_is
        t_InvalidRule := by k_is
        X_InvalidRule := ⟨by k_is, by k_is, by k_is, by k_is⟩
        nf_InvalidRule := by k_is
        d_InvalidRule_init := _
        F_InvalidRule_init := fun_mk (by k_is) (by k_is) (by k_is)
        C_InvalidBook := _
        g_InvalidBook := PySem.W.mg_of KX G (by k_is)
        kc_InvalidBook := by k_is
        r_InvalidBook := by k_is
        ty_InvalidBook := by k_is
        x_InvalidBook := by kernel_rfl
        C_NotWished := _
        g_NotWished := PySem.W.mg_of KX G (by k_is)
        kc_NotWished := by k_is
        r_NotWished := by k_is
        ty_NotWished := by k_is
        x_NotWished := by kernel_rfl
        C_InvalidNumber := _
        g_InvalidNumber := PySem.W.mg_of KX G (by k_is)
        kc_InvalidNumber := by k_is
        r_InvalidNumber := by k_is
        ty_InvalidNumber := by k_is
        x_InvalidNumber := by kernel_rfl
        C_InvalidPool := _
        g_InvalidPool := PySem.W.mg_of KX G (by k_is)
        kc_InvalidPool := by k_is
        C_InvalidLog := _
        g_InvalidLog := PySem.W.mg_of KX G (by k_is)
        kc_InvalidLog := by k_is
        C_NoFit := _
        g_NoFit := PySem.W.mg_of KX G (by k_is)
        kc_NoFit := by k_is
        C_InvalidBooks := _
        g_InvalidBooks := PySem.W.mg_of KX G (by k_is)
        kc_InvalidBooks := by k_is
        C_UnknownChannel := _
        g_UnknownChannel := PySem.W.mg_of KX G (by k_is)
        kc_UnknownChannel := by k_is
        C_NoDelay := _
        g_NoDelay := PySem.W.mg_of KX G (by k_is)
        kc_NoDelay := by k_is
        C_InvalidRows := _
        g_InvalidRows := PySem.W.mg_of KX G (by k_is)
        kc_InvalidRows := by k_is
        C_InvalidSpan := _
        g_InvalidSpan := PySem.W.mg_of KX G (by k_is)
        kc_InvalidSpan := by k_is
        C_DoubleName := _
        g_DoubleName := PySem.W.mg_of KX G (by k_is)
        kc_DoubleName := by k_is
        C_InvalidName := _
        g_InvalidName := PySem.W.mg_of KX G (by k_is)
        kc_InvalidName := by k_is
        C_UnknownMark := _
        g_UnknownMark := PySem.W.mg_of KX G (by k_is)
        kc_UnknownMark := by k_is
        C_InvalidOperation := _
        g_InvalidOperation := PySem.W.mg_of KX G (by k_is)
        kc_InvalidOperation := by k_is
        C_InvalidRow := _
        g_InvalidRow := PySem.W.mg_of KX G (by k_is)
        kc_InvalidRow := by k_is
        C_DecodeError := _
        g_DecodeError := PySem.W.mg_of KX G (by k_is)
        kc_DecodeError := by k_is
        C_DaybookError := _
        g_DaybookError := PySem.W.mg_of KX G (by k_is)
        kc_DaybookError := by k_is
        em_InvalidSending_RecorderError := DD.exm_of (by k_is) (by k_is) (by k_is) (by k_is)
        em_InvalidListing_RecorderError := DD.exm_of (by k_is) (by k_is) (by k_is) (by k_is)
        em_UnknownName_RecorderError := DD.exm_of (by k_is) (by k_is) (by k_is) (by k_is)
        em_InvalidRule_RecorderError := DD.exm_of (by k_is) (by k_is) (by k_is) (by k_is)
        em_InvalidBook_RecorderError := DD.exm_of (by k_is) (by k_is) (by k_is) (by k_is)
        em_NotWished_RecorderError := DD.exm_of (by k_is) (by k_is) (by k_is) (by k_is)
        em_InvalidNumber_RecorderError := DD.exm_of (by k_is) (by k_is) (by k_is) (by k_is)
        kv_InvalidNumber := DD.kit_ct (by kernel_rfl) (by k_is)
        ec_InvalidNumber := ⟨by k_is, by k_is, by k_is, by k_is, by k_is, by k_is, by k_is, by k_is⟩
        ke_InvalidNumber_DecodeError := DD.kit_cr (by decide) (by k_is) (by k_is) (by k_is)
        ke_InvalidNumber_InvalidBook := DD.kit_cr (by decide) (by k_is) (by k_is) (by k_is)
        ke_InvalidNumber_InvalidRow := DD.kit_cr (by decide) (by k_is) (by k_is) (by k_is)
        ke_InvalidNumber_UnknownMark := DD.kit_cr (by decide) (by k_is) (by k_is) (by k_is)
        ke_InvalidNumber_InvalidSpan := DD.kit_cr (by decide) (by k_is) (by k_is) (by k_is)
        ke_InvalidNumber_InvalidNumber := DD.kit_same
        ke_InvalidNumber_InvalidListing := DD.kit_cr (by decide) (by k_is) (by k_is) (by k_is)
        ke_InvalidNumber_InvalidName := DD.kit_cr (by decide) (by k_is) (by k_is) (by k_is)
        ke_InvalidNumber_UnknownChannel := DD.kit_cr (by decide) (by k_is) (by k_is) (by k_is)
        ke_InvalidNumber_NoDelay := DD.kit_cr (by decide) (by k_is) (by k_is) (by k_is)
        ke_InvalidNumber_InvalidOperation := DD.kit_cr (by decide) (by k_is) (by k_is) (by k_is)
        ke_InvalidNumber_NoFit := DD.kit_cr (by decide) (by k_is) (by k_is) (by k_is)
        ke_InvalidNumber_InvalidSending := DD.kit_cr (by decide) (by k_is) (by k_is) (by k_is)
        ke_InvalidNumber_InvalidRule := DD.kit_cr (by decide) (by k_is) (by k_is) (by k_is)
        ke_InvalidNumber_InvalidLog := DD.kit_cr (by decide) (by k_is) (by k_is) (by k_is)
        ke_InvalidNumber_InvalidPool := DD.kit_cr (by decide) (by k_is) (by k_is) (by k_is)
        ke_InvalidNumber_InvalidRows := DD.kit_cr (by decide) (by k_is) (by k_is) (by k_is)
        ke_InvalidNumber_DaybookError := DD.kit_cr (by decide) (by k_is) (by k_is) (by k_is)
        ke_InvalidNumber_UnknownName := DD.kit_cr (by decide) (by k_is) (by k_is) (by k_is)
        ke_InvalidNumber_InvalidBooks := DD.kit_cr (by decide) (by k_is) (by k_is) (by k_is)
        ke_InvalidNumber_DoubleName := DD.kit_cr (by decide) (by k_is) (by k_is) (by k_is) } (by kernel_rfl)
      exact DD.law_at S.n_tp hT (PySem.W.codeHd_of_K KX S.h_law) (K32_en S hmg) fun ns hl => ⟨ns, rfl, hl, rfl, rfl⟩
