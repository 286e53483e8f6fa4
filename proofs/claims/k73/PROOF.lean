import PyProof.Rows.All
import Wide.All
import OpenK.AllK
import Wide.FinOn
import HandS.ForMost
import HandS.ForExc
import HandS.CallSlots
import HandS.Lambda
import KE.KDflt
import HandS.IsInst
import HandS.Property
import HandS.ExcInit
import HandS.ExcField
import HandS.Walk
import HandS.Defaults
import HandS.TupAny
import HandS.Conv
import HandS.Deep
import PyProof.P3In
import HandS.OwnEq
import PyProof.InstNe
import PyProof.EqLayable
import HandS.Style
import HandS.DictComp
import KE.KDictSum
import PyProof.TupleOfSeq
import KE.SortData
import KE.DataMinMax
import KE.KDictPairs
import HandS.TupLen
import HandS.TupMul
import HandS.ListItems
import HandS.ExcIs
import HandS.Ends
import HandS.EndBits
import KE.KNestM
import HandS.HeadHook4
import HandS.EndTab
import HandS.Records
import HandS.Star
import HandS.TupSets
import HandS.SetBool
import HandS.SortKw
import HandS.ListEq
import HandS.DictEq
import PyProof.NeKinds
import HandS.SetFor
import KE.HD2
import PySem.Challenge.RW_fewtuners_k73_whole_hours_made_longer
set_option Elab.async false
set_option linter.all false
set_option maxRecDepth 100000
set_option maxHeartbeats 4000000
namespace DD
open PySem L2
/-- a lambda's text -/
structure LamK where
  params : Arguments
  body : Expr
  scope : Scope
/-- data: what never changes -/
inductive Dt where
  | non | bl (b : Bool) | int (i : Int) | str (x : Str) | raw (v : V)
  | tup (xs : List Dt) | lst (xs : List Dt) | ktu (xs : List Dt) | fls (xs : List Dt) | dic (kvs : List (Key × Dt)) | dtt (kvs : List (List Key × Dt)) | ins (C : Addr) (fs : List (Str × Dt))
  | exc (a : Addr) (d : Option Addr) (C : Addr) (fs : List (Str × Dt))
  | lam (cl : List (Str × Addr)) (k : LamK)
/-- what a slot holds: nothing known, data, an object of one's own -/
inductive Sv where
  | un | dat (d : Dt) | own (p : Addr)
/-- an object of one's own -/
inductive Ob where
  | lst (xs : List Sv) | dic (kvs : List (Key × Sv)) | dtt (kvs : List (List Key × Sv)) | ins (C : Addr) (fs : List (Str × Sv))
  /-- a def's table of code objects, all of the name q; and what is known of that def's slots -/
  | tbl (q : Str) (Δ : List Sv) (σ : List (Option V))
abbrev Store := List (Addr × Ob)
abbrev keys (st : Store) : List Addr := st.map (·.1)
/-- a lambda's default: none, or 0 -/
def DefIs (I : Hp) (k : LamK) (dV : Value) : Prop := (k.params.defaults = [] ∧ dV = .none) ∨ (k.params.defaults ≠ [] ∧ ∃ T, dV = .ref T ∧ I T = some (.tup [.int 0]))
abbrev lamO (q : Str) (cl : List (Str × Addr)) (k : LamK) (dV doc pm : Value) (c' : Addr) (ctv : Value) : Obj :=
  PySem.W.kdv_obj "<lambda>" q k.params (.expr k.body) k.scope (cloFrom cl k.scope.names []) dV doc pm c' ctv
mutual
inductive IsD (K : PySem.W.Frag) (I : Hp) : Dt → V → Prop
  | non : IsD K I .non .non
  | bl (b : Bool) : IsD K I (.bl b) (.bl b)
  | int (i : Int) : IsD K I (.int i) (.int i)
  | str (x : Str) : IsD K I (.str x) (.str x)
  | raw (v : V) : IsD K I (.raw v) v
  | tup {ds : List Dt} {vs : List V} {a : Addr} : I a = some (.tup vs) → IsDs K I ds vs → IsD K I (.tup ds) (.ref a)
  | lst {ds : List Dt} {vs : List V} {a : Addr} : I a = some (.lst vs) → IsDs K I ds vs → IsD K I (.lst ds) (.ref a)
  | ktu {ds : List Dt} {vs : List V} {a : Addr} : SqT K I a vs → IsDs K I ds vs → IsD K I (.ktu ds) (.ref a)
  | fls {ds : List Dt} {vs : List V} {a : Addr} : SqL K I a vs → IsDs K I ds vs → IsD K I (.fls ds) (.ref a)
  | dic {ds : List (Key × Dt)} {vs : List (Key × V)} {a : Addr} : Rd I a (.dK vs) → IsDk K I ds vs → IsD K I (.dic ds) (.ref a)
  | dtt {ds : List (List Key × Dt)} {vs : List (List Key × V)} {a : Addr} : Rd I a (.dT vs) → IsDt K I ds vs → IsD K I (.dtt ds) (.ref a)
  | ins {C : Addr} {ds : List (Str × Dt)} {vs : List (Str × V)} {a dx : Addr} : I a = some (.ins C dx vs) → IsDf K I ds vs → IsD K I (.ins C ds) (.ref a)
  | exc {a dd C : Addr} {ds : List (Str × Dt)} {vs : List (Str × V)} : I dd = some (.xd vs) → IsDf K I ds vs → IsD K I (.exc a (some dd) C ds) (.ref a)
  | exc0 {a C : Addr} : IsD K I (.exc a none C []) (.ref a)
  | lam {cl : List (Str × Addr)} {k : LamK} {f c' : Addr} {q : Str} {dV doc pm ctv : Value} : I f = some (.frz (lamO q cl k dV doc pm c' ctv) (.ext fun _ => True)) → I c' = some (LamX.CodeO c' q) → DefIs I k dV → IsD K I (.lam cl k) (.ref f)
inductive IsDs (K : PySem.W.Frag) (I : Hp) : List Dt → List V → Prop
  | nil : IsDs K I [] []
  | cons {d : Dt} {v : V} {ds : List Dt} {vs : List V} : IsD K I d v → IsDs K I ds vs → IsDs K I (d :: ds) (v :: vs)
inductive IsDk (K : PySem.W.Frag) (I : Hp) : List (Key × Dt) → List (Key × V) → Prop
  | nil : IsDk K I [] []
  | cons {k : Key} {d : Dt} {v : V} {ds : List (Key × Dt)} {vs : List (Key × V)} : IsD K I d v → IsDk K I ds vs → IsDk K I ((k, d) :: ds) ((k, v) :: vs)
inductive IsDt (K : PySem.W.Frag) (I : Hp) : List (List Key × Dt) → List (List Key × V) → Prop
  | nil : IsDt K I [] []
  | cons {k : List Key} {d : Dt} {v : V} {ds : List (List Key × Dt)} {vs : List (List Key × V)} : IsD K I d v → IsDt K I ds vs → IsDt K I ((k, d) :: ds) ((k, v) :: vs)
inductive IsDf (K : PySem.W.Frag) (I : Hp) : List (Str × Dt) → List (Str × V) → Prop
  | nil : IsDf K I [] []
  | cons {k : Str} {d : Dt} {v : V} {ds : List (Str × Dt)} {vs : List (Str × V)} : IsD K I d v → IsDf K I ds vs → IsDf K I ((k, d) :: ds) ((k, v) :: vs)
end
/-- a heap that extends another one -/
def Ex (I I' : Hp) : Prop := ∀ a o, I a = some o → I' a = some o
theorem Ex.refl (I : Hp) : Ex I I := fun _ _ h => h
theorem Ex.trans {I J L : Hp} (a : Ex I J) (b : Ex J L) : Ex I L := fun x o h => b x o (a x o h)
theorem Ex.new {H : Hp} {p : Addr} {o : HO} (h : H p = none) : Ex H (upd H p o) := fun a u e => by
  rw [upd_ne (ne_of_none e h)]
  exact e
theorem Ex.rd {I I' : Hp} (e : Ex I I') {a : Addr} {u : HO} (h : Rd I a u) : Rd I' a u := by
  rcases h with h | ⟨o, h⟩
  · exact Or.inl (e a _ h)
  · exact Or.inr ⟨o, e a _ h⟩
theorem Ex.sl {K : PySem.W.Frag} {I I' : Hp} (e : Ex I I') {a : Addr} {xs : List V} (h : SqL K I a xs) : SqL K I' a xs := h.imp e.rd id
theorem Ex.st {K : PySem.W.Frag} {I I' : Hp} (e : Ex I I') {a : Addr} {xs : List V} (h : SqT K I a xs) : SqT K I' a xs := h.imp e.rd id
theorem DefIs.mono {I I' : Hp} (e : Ex I I') {k : LamK} {dV : Value} (h : DefIs I k dV) : DefIs I' k dV := h.imp id fun ⟨a, T, b, c⟩ => ⟨a, T, b, e _ _ c⟩
mutual
theorem IsD.mono {K : PySem.W.Frag} {I I' : Hp} (e : Ex I I') : ∀ {d : Dt} {v : V}, IsD K I d v → IsD K I' d v
  | _, _, .non => .non
  | _, _, .bl b => .bl b
  | _, _, .int i => .int i
  | _, _, .str x => .str x
  | _, _, .raw v => .raw v
  | _, _, .tup h r => .tup (e _ _ h) (IsDs.mono e r)
  | _, _, .lst h r => .lst (e _ _ h) (IsDs.mono e r)
  | _, _, .ktu h r => .ktu (e.st h) (IsDs.mono e r)
  | _, _, .fls h r => .fls (e.sl h) (IsDs.mono e r)
  | _, _, .dic h r => .dic (e.rd h) (IsDk.mono e r)
  | _, _, .dtt h r => .dtt (e.rd h) (IsDt.mono e r)
  | _, _, .ins h r => .ins (e _ _ h) (IsDf.mono e r)
  | _, _, .exc h r => .exc (e _ _ h) (IsDf.mono e r)
  | _, _, .exc0 => .exc0
  | _, _, .lam a b c => .lam (e _ _ a) (e _ _ b) (c.mono e)
theorem IsDs.mono {K : PySem.W.Frag} {I I' : Hp} (e : Ex I I') : ∀ {d : List Dt} {v : List V}, IsDs K I d v → IsDs K I' d v
  | _, _, .nil => .nil
  | _, _, .cons h r => .cons (IsD.mono e h) (IsDs.mono e r)
theorem IsDk.mono {K : PySem.W.Frag} {I I' : Hp} (e : Ex I I') : ∀ {d : List (Key × Dt)} {v : List (Key × V)}, IsDk K I d v → IsDk K I' d v
  | _, _, .nil => .nil
  | _, _, .cons h r => .cons (IsD.mono e h) (IsDk.mono e r)
theorem IsDt.mono {K : PySem.W.Frag} {I I' : Hp} (e : Ex I I') : ∀ {d : List (List Key × Dt)} {v : List (List Key × V)}, IsDt K I d v → IsDt K I' d v
  | _, _, .nil => .nil
  | _, _, .cons h r => .cons (IsD.mono e h) (IsDt.mono e r)
theorem IsDf.mono {K : PySem.W.Frag} {I I' : Hp} (e : Ex I I') : ∀ {d : List (Str × Dt)} {v : List (Str × V)}, IsDf K I d v → IsDf K I' d v
  | _, _, .nil => .nil
  | _, _, .cons h r => .cons (IsD.mono e h) (IsDf.mono e r)
end
inductive IsS (K : PySem.W.Frag) (I : Hp) : Sv → V → Prop
  | dat {d : Dt} {v : V} : IsD K I d v → IsS K I (.dat d) v
  | own (p : Addr) : IsS K I (.own p) (.ref p)
theorem IsS.mono {K : PySem.W.Frag} {I I' : Hp} (e : Ex I I') {s : Sv} {v : V} : IsS K I s v → IsS K I' s v
  | .dat h => .dat (h.mono e)
  | .own p => .own p
abbrev IsSs (K : PySem.W.Frag) (I : Hp) : List Sv → List V → Prop := Paired (IsS K I)
def RK (K : PySem.W.Frag) (I : Hp) {κ : Type} (a : κ × Sv) (b : κ × V) : Prop := a.1 = b.1 ∧ IsS K I a.2 b.2
theorem RK.mono {K : PySem.W.Frag} {I I' : Hp} (e : Ex I I') {κ : Type} {a : κ × Sv} {b : κ × V} (h : RK K I a b) : RK K I' a b := ⟨h.1, h.2.mono e⟩
theorem paired_mono {α β : Type} {F G : α → β → Prop} (h : ∀ a b, F a b → G a b) : ∀ {xs : List α} {ys : List β}, Paired F xs ys → Paired G xs ys
  | _, _, .nil => .nil
  | _, _, .cons r t => .cons (h _ _ r) (paired_mono h t)
/-- what an own object is in the heap -/
inductive ObIs (K : PySem.W.Frag) (I : Hp) : Ob → HO → Prop
  | lst {xs : List Sv} {vs : List V} : IsSs K I xs vs → ObIs K I (.lst xs) (.lst vs)
  | dic {xs : List (Key × Sv)} {vs : List (Key × V)} : Paired (RK K I) xs vs → ObIs K I (.dic xs) (.dK vs)
  | dtt {xs : List (List Key × Sv)} {vs : List (List Key × V)} : Paired (RK K I) xs vs → ObIs K I (.dtt xs) (.dT vs)
  | ins {C dx : Addr} {xs : List (Str × Sv)} {vs : List (Str × V)} : Paired (RK K I) xs vs → ObIs K I (.ins C xs) (.ins C dx vs)
  | tbl {q : Str} {Δ : List Sv} {σ : List (Option V)} {ps : Array Value} : TriplesOk ps.toList → (∀ (pos : Pos) (cv : Value), codeAmong pos ps.toList = some cv → ∃ c, cv = .ref c ∧ I c = some (LamX.CodeO c q)) →
      σ.length = Δ.length → (∀ (i : Nat) (s : Sv), Δ[i]? = some s → s = .un ∨ ∃ v, σ[i]? = some (some v) ∧ IsS K I s v) → ObIs K I (.tbl q Δ σ) (.tbl ps)
theorem ObIs.mono {K : PySem.W.Frag} {I I' : Hp} (e : Ex I I') {ob : Ob} {o : HO} : ObIs K I ob o → ObIs K I' ob o
  | .lst h => .lst (paired_mono (fun _ _ => IsS.mono e) h)
  | .dic h => .dic (paired_mono (fun _ _ => RK.mono e) h)
  | .dtt h => .dtt (paired_mono (fun _ _ => RK.mono e) h)
  | .ins h => .ins (paired_mono (fun _ _ => RK.mono e) h)
  | .tbl h1 h2 h3 h4 => .tbl h1 (fun p cv hc => let ⟨c, a, b⟩ := h2 p cv hc; ⟨c, a, e _ _ b⟩) h3 fun i s hs => (h4 i s hs).imp id fun ⟨v, a, b⟩ => ⟨v, a, b.mono e⟩
/-- what is known stands in the heap (a dict perhaps locked) -/
def Sub (I H : Hp) : Prop := ∀ a o, I a = some o → H a = some o ∨ (((∃ k, o = .dK k) ∨ ∃ k, o = .dT k) ∧ ∃ ob, H a = some (.frz ob o))
theorem Sub.rd {I H : Hp} (s : Sub I H) {a : Addr} {u : HO} (h : Rd I a u) : Rd H a u := by
  rcases h with h | ⟨o, h⟩
  · rcases s a _ h with h | ⟨_, ob, h⟩
    · exact .inl h
    · exact .inr ⟨ob, h⟩
  · rcases s a _ h with h | ⟨h | h, _⟩
    · exact .inr ⟨o, h⟩
    · obtain ⟨k, h⟩ := h; cases h
    · obtain ⟨k, h⟩ := h; cases h
theorem Sub.sl {K : PySem.W.Frag} {I H : Hp} (s : Sub I H) {a : Addr} {xs : List V} (h : SqL K I a xs) : SqL K H a xs := h.imp s.rd id
theorem Sub.st {K : PySem.W.Frag} {I H : Hp} (s : Sub I H) {a : Addr} {xs : List V} (h : SqT K I a xs) : SqT K H a xs := h.imp s.rd id
theorem Sub.at {I H : Hp} (s : Sub I H) {a : Addr} {o : HO} (h : I a = some o) (n : ∀ k, o ≠ .dK k) (m : ∀ k, o ≠ .dT k) : H a = some o := by
  rcases s a _ h with h | ⟨⟨k, h⟩ | ⟨k, h⟩, _⟩
  · exact h
  · exact absurd h (n k)
  · exact absurd h (m k)
theorem Sub.none {I H : Hp} (s : Sub I H) {a : Addr} (h : H a = none) : I a = none := by
  cases e : I a with
  | none => rfl
  | some o =>
    rcases s a _ e with q | ⟨_, ob, q⟩ <;> rw [h] at q <;> cases q
/-- a world: known things, own things -/
structure Wd (K : PySem.W.Frag) (st : Store) (I H : Hp) : Prop where
  sub : Sub I H
  own : ∀ p ob, (p, ob) ∈ st → I p = none ∧ ∃ o, H p = some o ∧ ObIs K I ob o
  nd : (keys st).Nodup
/-- from one world to a later one -/
structure Stp (st : Store) (I H : Hp) (st' : Store) (I' H' : Hp) : Prop where
  ii : Ex I I'
  hh : ∀ a o, a ∉ keys st → H a = some o → H' a = some o
  nw : ∀ a, I' a ≠ none → I a ≠ none ∨ H a = none ∨ a ∈ keys st ∨ ∃ vs, H a = some (.tup vs)
  ks : ∀ p, p ∈ keys st' → p ∈ keys st ∨ H p = none
theorem Stp.refl (st : Store) (I H : Hp) : Stp st I H st I H := ⟨Ex.refl _, fun _ _ _ h => h, fun _ h => .inl h, fun _ h => .inl h⟩
theorem Stp.trans {st st1 st2 : Store} {I I1 I2 H H1 H2 : Hp} (a : Stp st I H st1 I1 H1) (b : Stp st1 I1 H1 st2 I2 H2) : Stp st I H st2 I2 H2 := by
  have back : ∀ p, p ∉ keys st → H1 p = none → H p = none := fun p hp h => by
    cases e : H p with
    | none => rfl
    | some o =>
      have q := a.hh p o hp e
      rw [h] at q
      cases q
  refine ⟨a.ii.trans b.ii, fun p o hp h => ?_, fun p h => ?_, fun p h => ?_⟩
  · refine b.hh p o (fun z => ?_) (a.hh p o hp h)
    rcases a.ks p z with q | q
    · exact hp q
    · rw [h] at q
      cases q
  · rcases b.nw p h with q | q | q | ⟨vs, q⟩
    · exact a.nw p q
    · by_cases hp : p ∈ keys st
      · exact .inr (.inr (.inl hp))
      · exact .inr (.inl (back p hp q))
    · rcases a.ks p q with q | q
      · exact .inr (.inr (.inl q))
      · exact .inr (.inl q)
    · by_cases hp : p ∈ keys st
      · exact .inr (.inr (.inl hp))
      · cases e : H p with
        | none => exact .inr (.inl rfl)
        | some o =>
          have z := a.hh p o hp e
          rw [q] at z
          cases z
          exact .inr (.inr (.inr ⟨vs, rfl⟩))
  · rcases b.ks p h with q | q
    · exact a.ks p q
    · by_cases hp : p ∈ keys st
      · exact .inl hp
      · exact .inr (back p hp q)
/-- the slots -/
def Sl (K : PySem.W.Frag) (Δ : List Sv) (I : Hp) (σ : St) : Prop := σ.length = Δ.length ∧ ∀ (i : Nat) (s : Sv), Δ[i]? = some s → s = .un ∨ ∃ v, σ[i]? = some (some v) ∧ IsS K I s v
theorem Sl.mono {K : PySem.W.Frag} {Δ : List Sv} {I I' : Hp} {σ : St} (e : Ex I I') (h : Sl K Δ I σ) : Sl K Δ I' σ := ⟨h.1, fun i s hs => (h.2 i s hs).imp id fun ⟨v, a, b⟩ => ⟨v, a, b.mono e⟩⟩
theorem Sl.set {K : PySem.W.Frag} {Δ : List Sv} {I : Hp} {σ : St} (h : Sl K Δ I σ) {i : Nat} {s : Sv} {v : V} (hv : IsS K I s v) : Sl K (Δ.set i s) I (σ.set i (some v)) := by
  refine ⟨by rw [List.length_set, List.length_set]; exact h.1, fun j t ht => ?_⟩
  by_cases e : i = j
  · subst e
    have hl : i < Δ.length := by
      have := (List.getElem?_eq_some_iff.mp ht).1
      rwa [List.length_set] at this
    rw [List.getElem?_set_self hl] at ht
    cases ht
    exact .inr ⟨v, List.getElem?_set_self (by rw [h.1]; exact hl), hv⟩
  · rw [List.getElem?_set_ne e] at ht
    rw [List.getElem?_set_ne e]
    exact h.2 j t ht
/-- an exception: its class, its fields -/
structure Xc where
  C : Addr
  fs : List (Str × Dt)
def XIs (K : PySem.W.Frag) (I H : Hp) (x : Xc) (cls : Value) (d : Option Addr) : Prop := cls = .ref x.C ∧ ((x.fs = [] ∧ d = none) ∨ x.fs ≠ [] ∧ ∃ dd vs, d = some dd ∧ I dd = some (.xd vs) ∧ IsDf K I x.fs vs)
/-- readings -/
abbrev OK := Sv → Store → Prop
abbrev EK := Xc → Store → Prop
abbrev DE := List Sv → Store → OK → EK → Prop
abbrev DT := List Sv → Store → (Bool → Store → Prop) → EK → Prop
abbrev DA := List Sv → Store → (List Sv → Store → Prop) → EK → Prop
structure DN where
  nx : List Sv → Store → Prop
  rt : OK
  bk : List Sv → Store → Prop
  ct : List Sv → Store → Prop
  ex : Xc → List Sv → Store → Prop
abbrev DS := List Sv → Store → DN → Prop
section
variable (K : PySem.W.Frag)
def Cont (st : Store) (I H : Hp) (ok : OK) (Q : VK) : Prop := ∀ s st' v I' H', ok s st' → Wd K st' I' H' → Stp st I H st' I' H' → IsS K I' s v → Q v H'
def ContB (st : Store) (I H : Hp) (ok : Bool → Store → Prop) (Q : Bool → Hp → Prop) : Prop := ∀ b st' I' H', ok b st' → Wd K st' I' H' → Stp st I H st' I' H' → Q b H'
def ContA (st : Store) (I H : Hp) (ok : List Sv → Store → Prop) (Q : List V → Hp → Prop) : Prop := ∀ ss st' vs I' H', ok ss st' → Wd K st' I' H' → Stp st I H st' I' H' → IsSs K I' ss vs → Q vs H'
def ContX (st : Store) (I H : Hp) (ex : EK) (Q : Value → Option Addr → Hp → Prop) : Prop := ∀ x st' cls d I' H', ex x st' → Wd K st' I' H' → Stp st I H st' I' H' → XIs K I' H' x cls d → Q cls d H'
def low (t : DE) (W : WX) : TE := fun σ H Q => ∃ Δ st I ok ex, Wd K st I H ∧ Sl K Δ I σ ∧ t Δ st ok ex ∧ Cont K st I H ok Q ∧ ContX K st I H ex fun cls d H' => W cls d σ H'
def lowT (t : DT) (W : WX) : TT := fun σ H Q => ∃ Δ st I ok ex, Wd K st I H ∧ Sl K Δ I σ ∧ t Δ st ok ex ∧ ContB K st I H ok Q ∧ ContX K st I H ex fun cls d H' => W cls d σ H'
def lowA (t : DA) (W : WX) : TA := fun σ H Q => ∃ Δ st I ok ex, Wd K st I H ∧ Sl K Δ I σ ∧ t Δ st ok ex ∧ ContA K st I H ok Q ∧ ContX K st I H ex fun cls d H' => W cls d σ H'
def ContS (st : Store) (I H : Hp) (n : List Sv → Store → Prop) (Q : St → Hp → Prop) : Prop := ∀ Δ' st' σ' I' H', n Δ' st' → Wd K st' I' H' → Stp st I H st' I' H' → Sl K Δ' I' σ' → Q σ' H'
structure Ends_ (st : Store) (I H : Hp) (N : DN) (W : WX) (D : Ends) : Prop where
  nx : ContS K st I H N.nx D.nx
  rt : Cont K st I H N.rt D.rt
  bk : ContS K st I H N.bk D.bk
  ct : ContS K st I H N.ct D.ct
  ex : ∀ x Δ' st' cls d σ' I' H', N.ex x Δ' st' → Wd K st' I' H' → Stp st I H st' I' H' → Sl K Δ' I' σ' → XIs K I' H' x cls d → W cls d σ' H'
def lowS (t : DS) (W : WX) : TS := fun D σ H => ∃ Δ st I N, Wd K st I H ∧ Sl K Δ I σ ∧ t Δ st N ∧ Ends_ K st I H N W D
end
/-- a tuple that stands in the heap may be known -/
theorem know_tup {K : PySem.W.Frag} {st : Store} {I H : Hp} {q : Addr} {vs : List V} (w : Wd K st I H) (h : H q = some (.tup vs)) : Wd K st (upd I q (.tup vs)) H ∧ Stp st I H st (upd I q (.tup vs)) H := by
  have ex : Ex I (upd I q (.tup vs)) := fun a o e => by
    by_cases z : a = q
    · subst z
      rw [upd_same]
      rcases w.sub a o e with g | ⟨⟨k, g⟩ | ⟨k, g⟩, ob, g2⟩
      · rw [h] at g; exact g
      · rw [h] at g2; cases g2
      · rw [h] at g2; cases g2
    · rw [upd_ne z]; exact e
  refine ⟨⟨fun a o e => ?_, fun p ob hp => ?_, w.nd⟩, ⟨ex, fun _ _ _ e => e, fun a e => ?_, fun _ z => .inl z⟩⟩
  · by_cases z : a = q
    · subst z
      rw [upd_same] at e
      cases e
      exact .inl h
    · rw [upd_ne z] at e
      exact w.sub a o e
  · obtain ⟨h1, o, h2, h3⟩ := w.own p ob hp
    have ne : p ≠ q := fun z => by
      subst z
      rw [h] at h2
      cases h2
      cases h3
    exact ⟨by rw [upd_ne ne]; exact h1, o, h2, h3.mono ex⟩
  · by_cases z : a = q
    · subst z
      exact .inr (.inr (.inr ⟨vs, h⟩))
    · rw [upd_ne z] at e
      exact .inl e
section
variable {K : PySem.W.Frag} {st st1 : Store} {I I1 H H1 : Hp}
theorem Cont.go {ok : OK} {Q : VK} (c : Cont K st I H ok Q) (s : Stp st I H st1 I1 H1) : Cont K st1 I1 H1 ok Q := fun x st' v I' H' h w s' i => c x st' v I' H' h w (s.trans s') i
theorem ContB.go {ok : Bool → Store → Prop} {Q : Bool → Hp → Prop} (c : ContB K st I H ok Q) (s : Stp st I H st1 I1 H1) : ContB K st1 I1 H1 ok Q := fun x st' I' H' h w s' => c x st' I' H' h w (s.trans s')
theorem ContA.go {ok : List Sv → Store → Prop} {Q : List V → Hp → Prop} (c : ContA K st I H ok Q) (s : Stp st I H st1 I1 H1) : ContA K st1 I1 H1 ok Q := fun x st' v I' H' h w s' i => c x st' v I' H' h w (s.trans s') i
theorem ContX.go {ex : EK} {Q : Value → Option Addr → Hp → Prop} (c : ContX K st I H ex Q) (s : Stp st I H st1 I1 H1) : ContX K st1 I1 H1 ex Q := fun x st' cls d I' H' h w s' i => c x st' cls d I' H' h w (s.trans s') i
theorem ContS.go {n : List Sv → Store → Prop} {Q : St → Hp → Prop} (c : ContS K st I H n Q) (s : Stp st I H st1 I1 H1) : ContS K st1 I1 H1 n Q := fun x st' v I' H' h w s' i => c x st' v I' H' h w (s.trans s') i
theorem Ends_.go {N : DN} {W : WX} {D : Ends} (c : Ends_ K st I H N W D) (s : Stp st I H st1 I1 H1) : Ends_ K st1 I1 H1 N W D :=
  ⟨c.nx.go s, c.rt.go s, c.bk.go s, c.ct.go s, fun x Δ' st' cls d σ' I' H' h w s' l i => c.ex x Δ' st' cls d σ' I' H' h w (s.trans s') l i⟩
theorem Cont.now {ok : OK} {Q : VK} (c : Cont K st I H ok Q) (w : Wd K st I H) {s : Sv} {v : V} (h : ok s st) (i : IsS K I s v) : Q v H := c s st v I H h w (Stp.refl _ _ _) i
end
section
variable {X : Cx} {e : Expr} {es : List Expr} {s : Stmt} {ss : List Stmt}
theorem PE.imp {t t' : TE} (h : PE X e t) (i : ∀ σ H Q, t' σ H Q → t σ H Q) : PE X e t' := ⟨fun pins s σ H Q J q => h.run pins s σ H Q J (i σ H Q q)⟩
theorem PT.imp {t t' : TT} (h : PT X e t) (i : ∀ σ H Q, t' σ H Q → t σ H Q) : PT X e t' := ⟨fun pins s σ H Q J q => h.run pins s σ H Q J (i σ H Q q)⟩
theorem PA.imp {t t' : TA} (h : PA X es t) (i : ∀ σ H Q, t' σ H Q → t σ H Q) : PA X es t' := ⟨fun pos pins s σ H Q J q => h.run pos pins s σ H Q J (i σ H Q q)⟩
theorem PS.imp {t t' : TS} (h : PS X s t) (i : ∀ D σ H, t' D σ H → t D σ H) : PS X s t' := ⟨fun pins s σ H D J q => h.run pins s σ H D J (i D σ H q)⟩
theorem PSs.imp {t t' : TS} (h : PSs X ss t) (i : ∀ D σ H, t' D σ H → t D σ H) : PSs X ss t' := ⟨fun pins s σ H D J q => h.run pins s σ H D J (i D σ H q)⟩
end
end DD
namespace DD
open PySem L2
def dVar (i : Nat) : DE := fun Δ st ok _ => match Δ.getD i .un with
  | .un => False
  | s => ok s st
def dC (d : Dt) : DE := fun _ st ok _ => ok (.dat d) st
abbrev G2 := Sv → Sv → Store → OK → Prop
def dOp (g : G2) (ta tb : DE) : DE := fun Δ st ok ex => ta Δ st (fun x st1 => tb Δ st1 (fun y st2 => g x y st2 ok) ex) ex
/-- ints in -/
def gI (C : Int → Int → Prop) (f : Int → Int → Dt) : G2 := fun x y st ok => match x, y with
  | .dat (.int i), .dat (.int j) => C i j ∧ ok (.dat (f i j)) st
  | _, _ => False
def gI0 (f : Int → Int → Dt) : G2 := fun x y st ok => match x, y with
  | .dat (.int i), .dat (.int j) => ok (.dat (f i j)) st
  | _, _ => False
def dAnd (ta tb : DE) : DE := fun Δ st ok ex => ta Δ st (fun x st1 => match x with
  | .dat (.bl c) => (c = true → tb Δ st1 ok ex) ∧ (c = false → ok (.dat (.bl false)) st1)
  | _ => False) ex
def dNot (ta : DE) : DE := fun Δ st ok ex => ta Δ st (fun x st1 => match x with
  | .dat (.bl c) => ok (.dat (.bl (!c))) st1
  | _ => False) ex
def dIf (t : DT) (ta tb : DE) : DE := fun Δ st ok ex => t Δ st (fun c st1 => (c = true → ta Δ st1 ok ex) ∧ (c = false → tb Δ st1 ok ex)) ex
/-- tests -/
def dTest (t : DE) : DT := fun Δ st ok ex => t Δ st (fun x st1 => match x with
  | .dat (.bl c) => ok c st1
  | _ => False) ex
def dAndT (ta tb : DT) : DT := fun Δ st ok ex => ta Δ st (fun c st1 => (c = true → tb Δ st1 ok ex) ∧ (c = false → ok false st1)) ex
def dOrT (ta tb : DT) : DT := fun Δ st ok ex => ta Δ st (fun c st1 => (c = true → ok true st1) ∧ (c = false → tb Δ st1 ok ex)) ex
def dNotT (ta : DT) : DT := fun Δ st ok ex => ta Δ st (fun c st1 => ok (!c) st1) ex
def dChain (g g' : G2) (ta tb tc : DE) : DE := fun Δ st ok ex => ta Δ st (fun x st1 => tb Δ st1 (fun y st2 => g x y st2 fun z st3 => match z with
  | .dat (.bl c) => (c = true → tc Δ st3 (fun w st4 => g' y w st4 ok) ex) ∧ (c = false → ok (.dat (.bl false)) st3)
  | _ => False) ex) ex
/-- arguments -/
def dNil : DA := fun _ st ok _ => ok [] st
def dCons (ta : DE) (tr : DA) : DA := fun Δ st ok ex => ta Δ st (fun x st1 => tr Δ st1 (fun xs st2 => ok (x :: xs) st2) ex) ex
/-- all of it data -/
inductive AllD : List Sv → List Dt → Prop
  | nil : AllD [] []
  | cons {d : Dt} {xs : List Sv} {ds : List Dt} : AllD xs ds → AllD (.dat d :: xs) (d :: ds)
theorem AllD.map : ∀ ds : List Dt, AllD (ds.map Sv.dat) ds
  | [] => .nil
  | _ :: ds => .cons (AllD.map ds)
theorem AllD.mapf {α : Type} (f : α → Dt) : ∀ xs : List α, AllD (xs.map fun x => Sv.dat (f x)) (xs.map f)
  | [] => .nil
  | _ :: xs => .cons (AllD.mapf f xs)
theorem AllD.app : ∀ {xs ys : List Sv} {ds es : List Dt}, AllD xs ds → AllD ys es → AllD (xs ++ ys) (ds ++ es)
  | _, _, _, _, .nil, h => h
  | _, _, _, _, .cons a, h => .cons (AllD.app a h)
def allD? : List Sv → Option (List Dt)
  | [] => some []
  | .dat d :: r => (allD? r).map (d :: ·)
  | _ :: _ => none
theorem allD_of : ∀ {xs : List Sv} {ds : List Dt}, allD? xs = some ds → AllD xs ds
  | [], _, h => by cases h; exact .nil
  | .dat d :: r, ds, h => by
    cases e : allD? r with
    | none =>
      have h' : (allD? r).map (d :: ·) = some ds := h
      rw [e] at h'
      cases h'
    | some es =>
      have h' : (allD? r).map (d :: ·) = some ds := h
      rw [e] at h'
      cases h'
      exact .cons (allD_of e)
  | .un :: _, _, h => by cases h
  | .own _ :: _, _, h => by cases h
/-- displays: data -/
def dTup (t : DA) : DE := fun Δ st ok ex => t Δ st (fun xs st1 => match allD? xs with
  | some ds => ok (.dat (.tup ds)) st1
  | none => False) ex
def dLst (t : DA) : DE := fun Δ st ok ex => t Δ st (fun xs st1 => match allD? xs with
  | some ds => ok (.dat (.lst ds)) st1
  | none => False) ex
/-- a list of one's own -/
def dLstO (t : DA) : DE := fun Δ st ok ex => t Δ st (fun xs st1 => ∀ p, p ∉ keys st1 → ok (.own p) ((p, .lst xs) :: st1)) ex
/-- a call -/
abbrev Ct := List Sv → Store → OK → EK → Prop
def dCall (ct : Ct) (dds : List Dt) (t : DA) : DE := fun Δ st ok ex => t Δ st (fun xs st1 => ct (xs ++ dds.map Sv.dat) st1 ok ex) ex
def lowF (K : PySem.W.Frag) (ct : Ct) : Sp := fun vs H Q E => ∃ ss st I ok ex, Wd K st I H ∧ IsSs K I ss vs ∧ ct ss st ok ex ∧ Cont K st I H ok Q ∧ ContX K st I H ex E
def dNext : DS := fun Δ st N => N.nx Δ st
def dSeq (t u : DS) : DS := fun Δ st N => t Δ st { N with nx := fun Δ1 st1 => u Δ1 st1 N }
def exAt (N : DN) (Δ : List Sv) : EK := fun x st => N.ex x Δ st
def dAsg (i : Nat) (t : DE) : DS := fun Δ st N => t Δ st (fun s st1 => N.nx (Δ.set i s) st1) (exAt N Δ)
def dRet (t : DE) : DS := fun Δ st N => t Δ st (fun s st1 => N.rt s st1) (exAt N Δ)
def dDrop (t : DE) : DS := fun Δ st N => t Δ st (fun _ st1 => N.nx Δ st1) (exAt N Δ)
def dIfS (c : DT) (t u : DS) : DS := fun Δ st N => c Δ st (fun b st1 => (b = true → t Δ st1 N) ∧ (b = false → u Δ st1 N)) (exAt N Δ)
def dBreak : DS := fun Δ st N => N.bk Δ st
section
variable {K : PySem.W.Frag} {W : WX} {st : Store} {I H : Hp}
theorem paired_app {α β : Type} {F : α → β → Prop} : ∀ {xs : List α} {ys : List β} {xs' : List α} {ys' : List β}, Paired F xs ys → Paired F xs' ys' → Paired F (xs ++ xs') (ys ++ ys')
  | _, _, _, _, .nil, h => h
  | _, _, _, _, .cons r t, h => .cons r (paired_app t h)
def LR2 (K : PySem.W.Frag) (r : R2) (g : G2) : Prop := ∀ x y st I H ok Q v w, Wd K st I H → IsS K I x v → IsS K I y w → g x y st ok → Cont K st I H ok Q → r v w H Q
theorem low_var {i : Nat} : ∀ σ H Q, low K (dVar i) W σ H Q → tVar i σ H Q := by
  rintro σ H Q ⟨Δ, st, I, ok, ex, wd, sl, h, c, _⟩
  cases e : Δ[i]? with
  | none =>
    have z : Δ.getD i .un = .un := by rw [List.getD_eq_getElem?_getD, e]; rfl
    unfold dVar at h
    rw [z] at h
    exact h.elim
  | some s =>
    have z : Δ.getD i .un = s := by rw [List.getD_eq_getElem?_getD, e]; rfl
    unfold dVar at h
    rw [z] at h
    rcases sl.2 i s e with q | ⟨v, hv, hi⟩
    · subst q
      exact h.elim
    · refine ⟨v, hv, c.now wd ?_ hi⟩
      cases s with
      | un => exact h.elim
      | dat d => exact h
      | own p => exact h
theorem low_c {d : Dt} {v : V} (hd : ∀ I, IsD K I d v) : ∀ σ H Q, low K (dC d) W σ H Q → tC v σ H Q := by
  rintro σ H Q ⟨Δ, st, I, ok, ex, wd, sl, h, c, _⟩
  exact c.now wd h (.dat (hd I))
/-- from one reading into the next -/
theorem low_go {t : DE} {Δ : List Sv} {σ : St} {ok : OK} {ex : EK} {Q : VK} (wd : Wd K st I H) (sl : Sl K Δ I σ) (h : t Δ st ok ex) (k : ∀ s st' v I' H', ok s st' → Wd K st' I' H' → Stp st I H st' I' H' → IsS K I' s v → Q v H')
    (kx : ContX K st I H ex fun cls d H' => W cls d σ H') : low K t W σ H Q := ⟨Δ, st, I, ok, ex, wd, sl, h, k, kx⟩
theorem low_op {r : R2} {g : G2} {ta tb : DE} (hr : LR2 K r g) : ∀ σ H Q, low K (dOp g ta tb) W σ H Q → tOp r (low K ta W) (low K tb W) σ H Q := by
  rintro σ H Q ⟨Δ, st, I, ok, ex, wd, sl, h, c, cx⟩
  refine low_go wd sl h (fun x st1 v I1 H1 h1 w1 s1 i1 => ?_) cx
  refine low_go w1 (sl.mono s1.ii) h1 (fun y st2 w I2 H2 h2 w2 s2 i2 => ?_) (cx.go s1)
  exact hr x y st2 I2 H2 ok Q v w w2 (i1.mono s2.ii) i2 h2 (c.go (s1.trans s2))
theorem lr_I {C : Int → Int → Prop} {f : Int → Int → Dt} {g : Int → Int → V} (hf : ∀ K I i j, IsD K I (f i j) (g i j)) : LR2 K (rI C g) (gI C f) := by
  intro x y st I H ok Q v w wd ix iy h c
  cases ix with
  | own p => exact h.elim
  | dat hx =>
    cases hx with
    | int i =>
      cases iy with
      | own p => exact h.elim
      | dat hy =>
        cases hy with
        | int j => exact ⟨i, j, rfl, rfl, h.1, c.now wd h.2 (.dat (hf _ _ _ _))⟩
        | _ => exact h.elim
    | _ => cases iy <;> exact h.elim
theorem lr_I0 {f : Int → Int → Dt} {g : Int → Int → V} (hf : ∀ K I i j, IsD K I (f i j) (g i j)) : LR2 K (rI0 g) (gI0 f) := by
  intro x y st I H ok Q v w wd ix iy h c
  cases ix with
  | own p => exact h.elim
  | dat hx =>
    cases hx with
    | int i =>
      cases iy with
      | own p => exact h.elim
      | dat hy =>
        cases hy with
        | int j => exact ⟨i, j, rfl, rfl, c.now wd h (.dat (hf _ _ _ _))⟩
        | _ => exact h.elim
    | _ => cases iy <;> exact h.elim
theorem low_and {ta tb : DE} : ∀ σ H Q, low K (dAnd ta tb) W σ H Q → tAndV (low K ta W) (low K tb W) σ H Q := by
  rintro σ H Q ⟨Δ, st, I, ok, ex, wd, sl, h, c, cx⟩
  refine low_go wd sl h (fun x st1 v I1 H1 h1 w1 s1 i1 => ?_) cx
  cases i1 with
  | own p => exact h1.elim
  | dat hd =>
    cases hd with
    | bl b =>
      refine ⟨b, rfl, ?_⟩
      cases b with
      | true => exact iteT (low_go w1 (sl.mono s1.ii) (h1.1 rfl) (c.go s1) (cx.go s1))
      | false => exact iteF ((c.go s1).now w1 (h1.2 rfl) (.dat (.bl _)))
    | _ => exact h1.elim
theorem low_not {ta : DE} : ∀ σ H Q, low K (dNot ta) W σ H Q → tNotV (low K ta W) σ H Q := by
  rintro σ H Q ⟨Δ, st, I, ok, ex, wd, sl, h, c, cx⟩
  refine low_go wd sl h (fun x st1 v I1 H1 h1 w1 s1 i1 => ?_) cx
  cases i1 with
  | own p => exact h1.elim
  | dat hd =>
    cases hd with
    | bl b => exact ⟨b, rfl, (c.go s1).now w1 h1 (.dat (.bl _))⟩
    | _ => exact h1.elim
theorem lowT_test {ta : DE} : ∀ σ H Q, lowT K (dTest ta) W σ H Q → tTest (low K ta W) σ H Q := by
  rintro σ H Q ⟨Δ, st, I, ok, ex, wd, sl, h, c, cx⟩
  refine low_go wd sl h (fun x st1 v I1 H1 h1 w1 s1 i1 => ?_) cx
  cases i1 with
  | own p => exact h1.elim
  | dat hd =>
    cases hd with
    | bl b => exact ⟨b, rfl, c b st1 I1 H1 h1 w1 s1⟩
    | _ => exact h1.elim
theorem lowT_B {ta : DE} : ∀ σ H Q, lowT K (dTest ta) W σ H Q → tB (low K ta W) σ H Q := lowT_test
theorem lowT_go {t : DT} {Δ : List Sv} {σ : St} {ok : Bool → Store → Prop} {ex : EK} {Q : Bool → Hp → Prop} (wd : Wd K st I H) (sl : Sl K Δ I σ) (h : t Δ st ok ex) (k : ContB K st I H ok Q)
    (kx : ContX K st I H ex fun cls d H' => W cls d σ H') : lowT K t W σ H Q := ⟨Δ, st, I, ok, ex, wd, sl, h, k, kx⟩
theorem lowT_and {ta tb : DT} : ∀ σ H Q, lowT K (dAndT ta tb) W σ H Q → tAnd (lowT K ta W) (lowT K tb W) σ H Q := by
  rintro σ H Q ⟨Δ, st, I, ok, ex, wd, sl, h, c, cx⟩
  refine lowT_go wd sl h (fun b st1 I1 H1 h1 w1 s1 => ?_) cx
  cases b with
  | true => exact iteT (lowT_go w1 (sl.mono s1.ii) (h1.1 rfl) (c.go s1) (cx.go s1))
  | false => exact iteF ((c.go s1) _ _ _ _ (h1.2 rfl) w1 (Stp.refl _ _ _))
theorem lowT_or {ta tb : DT} : ∀ σ H Q, lowT K (dOrT ta tb) W σ H Q → tOr (lowT K ta W) (lowT K tb W) σ H Q := by
  rintro σ H Q ⟨Δ, st, I, ok, ex, wd, sl, h, c, cx⟩
  refine lowT_go wd sl h (fun b st1 I1 H1 h1 w1 s1 => ?_) cx
  cases b with
  | true => exact iteT ((c.go s1) _ _ _ _ (h1.1 rfl) w1 (Stp.refl _ _ _))
  | false => exact iteF (lowT_go w1 (sl.mono s1.ii) (h1.2 rfl) (c.go s1) (cx.go s1))
theorem lowT_not {ta : DT} : ∀ σ H Q, lowT K (dNotT ta) W σ H Q → tNot (lowT K ta W) σ H Q := by
  rintro σ H Q ⟨Δ, st, I, ok, ex, wd, sl, h, c, cx⟩
  exact lowT_go wd sl h (fun b st1 I1 H1 h1 w1 s1 => c _ _ _ _ h1 w1 s1) cx
theorem low_if {t : DT} {ta tb : DE} : ∀ σ H Q, low K (dIf t ta tb) W σ H Q → tIf (lowT K t W) (low K ta W) (low K tb W) σ H Q := by
  rintro σ H Q ⟨Δ, st, I, ok, ex, wd, sl, h, c, cx⟩
  refine lowT_go wd sl h (fun b st1 I1 H1 h1 w1 s1 => ?_) cx
  cases b with
  | true => exact iteT (low_go w1 (sl.mono s1.ii) (h1.1 rfl) (c.go s1) (cx.go s1))
  | false => exact iteF (low_go w1 (sl.mono s1.ii) (h1.2 rfl) (c.go s1) (cx.go s1))
theorem low_chain {r r' : R2} {g g' : G2} {ta tb tc : DE} (hr : LR2 K r g) (hr' : LR2 K r' g') : ∀ σ H Q, low K (dChain g g' ta tb tc) W σ H Q → tChain r r' (low K ta W) (low K tb W) (low K tc W) σ H Q := by
  rintro σ H Q ⟨Δ, st, I, ok, ex, wd, sl, h, c, cx⟩
  refine low_go wd sl h (fun x st1 v I1 H1 h1 w1 s1 i1 => ?_) cx
  refine low_go w1 (sl.mono s1.ii) h1 (fun y st2 w I2 H2 h2 w2 s2 i2 => ?_) (cx.go s1)
  refine hr x y st2 I2 H2 _ _ v w w2 (i1.mono s2.ii) i2 h2 fun z st3 u I3 H3 h3 w3 s3 i3 => ?_
  have s13 := (s1.trans s2).trans s3
  cases i3 with
  | own p => exact h3.elim
  | dat hd =>
    cases hd with
    | bl b =>
      refine ⟨b, rfl, ?_⟩
      cases b with
      | true =>
        refine iteT (low_go w3 (sl.mono s13.ii) (h3.1 rfl) (fun z' st4 u' I4 H4 h4 w4 s4 i4 => ?_) (cx.go s13))
        exact hr' y z' st4 I4 H4 ok Q w u' w4 (i2.mono (s3.ii.trans s4.ii)) i4 h4 (c.go (s13.trans s4))
      | false => exact iteF ((c.go s13).now w3 (h3.2 rfl) (.dat (.bl _)))
    | _ => exact h3.elim
theorem lowA_nil : ∀ σ H Q, lowA K dNil W σ H Q → tNil σ H Q := by
  rintro σ H Q ⟨Δ, st, I, ok, ex, wd, sl, h, c, cx⟩
  exact c _ _ _ _ _ h wd (Stp.refl _ _ _) .nil
theorem lowA_go {t : DA} {Δ : List Sv} {σ : St} {ok : List Sv → Store → Prop} {ex : EK} {Q : List V → Hp → Prop} (wd : Wd K st I H) (sl : Sl K Δ I σ) (h : t Δ st ok ex) (k : ContA K st I H ok Q)
    (kx : ContX K st I H ex fun cls d H' => W cls d σ H') : lowA K t W σ H Q := ⟨Δ, st, I, ok, ex, wd, sl, h, k, kx⟩
theorem lowA_cons {ta : DE} {tr : DA} : ∀ σ H Q, lowA K (dCons ta tr) W σ H Q → tCons (low K ta W) (lowA K tr W) σ H Q := by
  rintro σ H Q ⟨Δ, st, I, ok, ex, wd, sl, h, c, cx⟩
  refine low_go wd sl h (fun x st1 v I1 H1 h1 w1 s1 i1 => ?_) cx
  refine lowA_go w1 (sl.mono s1.ii) h1 (fun xs st2 vs I2 H2 h2 w2 s2 i2 => ?_) (cx.go s1)
  exact c _ _ _ _ _ h2 w2 (s1.trans s2) (.cons (i1.mono s2.ii) i2)
theorem isDs_of : ∀ {xs : List Sv} {ds : List Dt} {vs : List V}, AllD xs ds → IsSs K I xs vs → IsDs K I ds vs
  | _, _, _, .nil, .nil => .nil
  | _, _, _, .cons a, .cons (.dat h) r => .cons h (isDs_of a r)
/-- a new known object -/
theorem new_known {p : Addr} {o : HO} (w : Wd K st I H) (hp : H p = none) : Wd K st (upd I p o) (upd H p o) ∧ Stp st I H st (upd I p o) (upd H p o) := by
  have ip : I p = none := w.sub.none hp
  refine ⟨⟨fun a u e => ?_, fun q ob hq => ?_, w.nd⟩, ⟨Ex.new ip, fun a u _ e => ?_, fun a e => ?_, fun q hq => .inl hq⟩⟩
  · by_cases h : a = p
    · subst h
      rw [upd_same] at e
      rw [upd_same]
      exact .inl e
    · rw [upd_ne h] at e
      rw [upd_ne h]
      exact w.sub a u e
  · obtain ⟨h1, u, h2, h3⟩ := w.own q ob hq
    have ne : q ≠ p := ne_of_none h2 hp
    exact ⟨by rw [upd_ne ne]; exact h1, u, by rw [upd_ne ne]; exact h2, h3.mono (Ex.new ip)⟩
  · rw [upd_ne (ne_of_none e hp)]
    exact e
  · by_cases h : a = p
    · subst h
      exact .inr (.inl hp)
    · rw [upd_ne h] at e
      exact .inl e
/-- a new object of one's own -/
theorem new_own {p : Addr} {o : HO} {ob : Ob} (w : Wd K st I H) (hp : H p = none) (ho : ObIs K I ob o) : p ∉ keys st ∧ Wd K ((p, ob) :: st) I (upd H p o) ∧ Stp st I H ((p, ob) :: st) I (upd H p o) := by
  have ip : I p = none := w.sub.none hp
  have np : p ∉ keys st := fun hm => by
    obtain ⟨⟨q, ob'⟩, hq, e⟩ := List.mem_map.mp hm
    obtain ⟨_, u, h2, _⟩ := w.own q ob' hq
    have e' : q = p := e
    rw [e', hp] at h2
    cases h2
  refine ⟨np, ⟨fun a u e => ?_, fun q ob' hq => ?_, List.nodup_cons.mpr ⟨np, w.nd⟩⟩, ⟨Ex.refl _, fun a u _ e => ?_, fun a e => .inl e, fun q hq => ?_⟩⟩
  · have ne : a ≠ p := ne_of_none e ip
    rw [upd_ne ne]
    exact w.sub a u e
  · rcases List.mem_cons.mp hq with e | hq
    · cases e
      exact ⟨ip, o, upd_same, ho⟩
    · obtain ⟨h1, u, h2, h3⟩ := w.own q ob' hq
      exact ⟨h1, u, by rw [upd_ne (ne_of_none h2 hp)]; exact h2, h3⟩
  · rw [upd_ne (ne_of_none e hp)]
    exact e
  · rcases List.mem_cons.mp hq with e | hq
    · have e' : q = p := e
      subst e'
      exact .inr hp
    · exact .inl hq
theorem low_tup {t : DA} : ∀ σ H Q, low K (dTup fun Δ st ok ex => t Δ st (fun xs st1 => xs.length ≤ sizeLine ∧ ok xs st1) ex) W σ H Q → tTup (lowA K t W) σ H Q := by
  rintro σ H Q ⟨Δ, st, I, ok, ex, wd, sl, h, c, cx⟩
  refine lowA_go wd sl h (fun xs st1 vs I1 H1 h1 w1 s1 i1 => ?_) cx
  obtain ⟨hl, h1⟩ := h1
  have el : xs.length = vs.length := i1.length
  refine ⟨by rw [← el]; exact hl, fun p hp => ?_⟩
  cases e : allD? xs with
  | none => simp only [e] at h1
  | some ds =>
    simp only [e] at h1
    obtain ⟨w2, s2⟩ := new_known (o := .tup vs) w1 hp
    exact c _ _ _ _ _ h1 w2 (s1.trans s2) (.dat (.tup upd_same (IsDs.mono (Ex.new (w1.sub.none hp)) (isDs_of (allD_of e) i1))))
theorem low_lst {t : DA} : ∀ σ H Q, low K (dLst fun Δ st ok ex => t Δ st (fun xs st1 => xs.length ≤ sizeLine ∧ ok xs st1) ex) W σ H Q → tLst (lowA K t W) σ H Q := by
  rintro σ H Q ⟨Δ, st, I, ok, ex, wd, sl, h, c, cx⟩
  refine lowA_go wd sl h (fun xs st1 vs I1 H1 h1 w1 s1 i1 => ?_) cx
  obtain ⟨hl, h1⟩ := h1
  have el : xs.length = vs.length := i1.length
  refine ⟨by rw [← el]; exact hl, fun p hp => ?_⟩
  cases e : allD? xs with
  | none => simp only [e] at h1
  | some ds =>
    simp only [e] at h1
    obtain ⟨w2, s2⟩ := new_known (o := .lst vs) w1 hp
    exact c _ _ _ _ _ h1 w2 (s1.trans s2) (.dat (.lst upd_same (IsDs.mono (Ex.new (w1.sub.none hp)) (isDs_of (allD_of e) i1))))
theorem low_lstO {t : DA} : ∀ σ H Q, low K (dLstO fun Δ st ok ex => t Δ st (fun xs st1 => xs.length ≤ sizeLine ∧ ok xs st1) ex) W σ H Q → tLst (lowA K t W) σ H Q := by
  rintro σ H Q ⟨Δ, st, I, ok, ex, wd, sl, h, c, cx⟩
  refine lowA_go wd sl h (fun xs st1 vs I1 H1 h1 w1 s1 i1 => ?_) cx
  obtain ⟨hl, h1⟩ := h1
  have el : xs.length = vs.length := i1.length
  refine ⟨by rw [← el]; exact hl, fun p hp => ?_⟩
  obtain ⟨np, w2, s2⟩ := new_own (o := .lst vs) (ob := .lst xs) w1 hp (.lst i1)
  exact c _ _ _ _ _ (h1 p np) w2 (s1.trans s2) (.own p)
theorem low_call {ct : Ct} {dds : List Dt} {dvs : List V} {t : DA} (hd : ∀ I, IsSs K I (dds.map Sv.dat) dvs) : ∀ σ H Q, low K (dCall ct dds t) W σ H Q → tCallSD (lowF K ct) dvs (WE W) (lowA K t W) σ H Q := by
  rintro σ H Q ⟨Δ, st, I, ok, ex, wd, sl, h, c, cx⟩
  refine lowA_go wd sl h (fun xs st1 vs I1 H1 h1 w1 s1 i1 => ?_) cx
  exact ⟨_, st1, I1, ok, ex, w1, paired_app i1 (hd I1), h1, c.go s1, cx.go s1⟩
theorem lowS_go {t : DS} {Δ : List Sv} {σ : St} {N : DN} {D : Ends} (wd : Wd K st I H) (sl : Sl K Δ I σ) (h : t Δ st N) (e : Ends_ K st I H N W D) : lowS K t W D σ H := ⟨Δ, st, I, N, wd, sl, h, e⟩
theorem lowS_next : ∀ D σ H, lowS K dNext W D σ H → tNext D σ H := by
  rintro D σ H ⟨Δ, st, I, N, wd, sl, h, e⟩
  exact e.nx _ _ _ _ _ h wd (Stp.refl _ _ _) sl
theorem lowS_seq {t u : DS} : ∀ D σ H, lowS K (dSeq t u) W D σ H → tSeq (lowS K t W) (lowS K u W) D σ H := by
  rintro D σ H ⟨Δ, st, I, N, wd, sl, h, e⟩
  exact lowS_go (t := t) wd sl h ⟨fun Δ1 st1 σ1 I1 H1 h1 w1 s1 l1 => lowS_go w1 l1 h1 (e.go s1), e.rt, e.bk, e.ct, e.ex⟩
theorem cx_of {Δ : List Sv} {σ : St} {N : DN} {D : Ends} (sl : Sl K Δ I σ) (e : Ends_ K st I H N W D) : ContX K st I H (exAt N Δ) fun cls d H' => W cls d σ H' := fun x st' cls d I' H' h w s i => e.ex x Δ st' cls d σ I' H' h w s (sl.mono s.ii) i
theorem lowS_asg {i : Nat} {t : DE} : ∀ D σ H, lowS K (dAsg i t) W D σ H → tAsg (low K t W) (gName i) D σ H := by
  rintro D σ H ⟨Δ, st, I, N, wd, sl, h, e⟩
  exact low_go wd sl h (fun s st1 v I1 H1 h1 w1 s1 i1 => e.nx _ _ _ _ _ h1 w1 s1 ((sl.mono s1.ii).set i1)) (cx_of sl e)
theorem lowS_ret {t : DE} : ∀ D σ H, lowS K (dRet t) W D σ H → tRet (low K t W) D σ H := by
  rintro D σ H ⟨Δ, st, I, N, wd, sl, h, e⟩
  exact low_go wd sl h e.rt (cx_of sl e)
theorem lowS_drop {t : DE} : ∀ D σ H, lowS K (dDrop t) W D σ H → tDrop (low K t W) D σ H := by
  rintro D σ H ⟨Δ, st, I, N, wd, sl, h, e⟩
  exact low_go wd sl h (fun s st1 v I1 H1 h1 w1 s1 i1 => e.nx _ _ _ _ _ h1 w1 s1 (sl.mono s1.ii)) (cx_of sl e)
theorem lowS_if {c : DT} {t u : DS} : ∀ D σ H, lowS K (dIfS c t u) W D σ H → tIfS (lowT K c W) (lowS K t W) (lowS K u W) D σ H := by
  rintro D σ H ⟨Δ, st, I, N, wd, sl, h, e⟩
  refine lowT_go wd sl h (fun b st1 I1 H1 h1 w1 s1 => ?_) (cx_of sl e)
  cases b with
  | true => exact iteT (lowS_go w1 (sl.mono s1.ii) (h1.1 rfl) (e.go s1))
  | false => exact iteF (lowS_go w1 (sl.mono s1.ii) (h1.2 rfl) (e.go s1))
theorem lowS_break : ∀ D σ H, lowS K dBreak W D σ H → tBreak D σ H := by
  rintro D σ H ⟨Δ, st, I, N, wd, sl, h, e⟩
  exact e.bk _ _ _ _ _ h wd (Stp.refl _ _ _) sl
end
end DD
namespace DD
open PySem L2
/-- what is done with the items of a sequence x -/
def withL (x : Sv) (st : Store) (k : List Sv → Prop) : Prop := match x with
  | .dat (.lst ds) => k (ds.map .dat)
  | .dat (.fls ds) => k (ds.map .dat)
  | .own p => ∃ (j : Nat) (xs : List Sv), st[j]? = some (p, Ob.lst xs) ∧ k xs
  | _ => False
def withT (x : Sv) (k : List Sv → Prop) : Prop := match x with
  | .dat (.tup ds) => k (ds.map .dat)
  | .dat (.ktu ds) => k (ds.map .dat)
  | _ => False
def withI (x : Sv) (k : Int → Prop) : Prop := match x with
  | .dat (.int i) => k i
  | _ => False
section
variable {K : PySem.W.Frag} {W : WX} {st : Store} {I H : Hp} {x : Sv} {v : V}
theorem isSs_of : ∀ {ds : List Dt} {vs : List V}, IsDs K I ds vs → IsSs K I (ds.map .dat) vs
  | _, _, .nil => .nil
  | _, _, .cons h r => .cons (.dat h) (isSs_of r)
theorem paired_len {α β : Type} {F : α → β → Prop} : ∀ {xs : List α} {ys : List β}, Paired F xs ys → xs.length = ys.length
  | _, _, .nil => rfl
  | _, _, .cons _ t => congrArg (· + 1) (paired_len t)
theorem paired_at {α β : Type} {F : α → β → Prop} : ∀ {xs : List α} {ys : List β}, Paired F xs ys → ∀ {i : Nat} {a : α}, xs[i]? = some a → ∃ b, ys[i]? = some b ∧ F a b
  | _, _, .nil, i, a, h => by simp at h
  | _, _, .cons r t, 0, a, h => by
    simp at h
    subst h
    exact ⟨_, rfl, r⟩
  | _, _, .cons r t, i + 1, a, h => by
    obtain ⟨b, h1, h2⟩ := paired_at t (i := i) (a := a) (by simpa using h)
    exact ⟨b, by simpa using h1, h2⟩
theorem paired_back {α β : Type} {F : α → β → Prop} : ∀ {xs : List α} {ys : List β}, Paired F xs ys → ∀ {i : Nat} {b : β}, ys[i]? = some b → ∃ a, xs[i]? = some a ∧ F a b
  | _, _, .nil, i, a, h => by simp at h
  | _, _, .cons r t, 0, a, h => by
    simp at h
    subst h
    exact ⟨_, rfl, r⟩
  | _, _, .cons r t, i + 1, a, h => by
    obtain ⟨b, h1, h2⟩ := paired_back t (i := i) (b := a) (by simpa using h)
    exact ⟨b, by simpa using h1, h2⟩
theorem paired_set {α β : Type} {F : α → β → Prop} {a : α} {b : β} (r : F a b) : ∀ {xs : List α} {ys : List β}, Paired F xs ys → ∀ i, Paired F (xs.set i a) (ys.set i b)
  | _, _, .nil, _ => .nil
  | _, _, .cons _ t, 0 => .cons r t
  | _, _, .cons q t, i + 1 => .cons q (paired_set r t i)
theorem paired_take {α β : Type} {F : α → β → Prop} : ∀ {xs : List α} {ys : List β}, Paired F xs ys → ∀ n, Paired F (xs.take n) (ys.take n)
  | _, _, h, 0 => by simp only [List.take_zero]; exact .nil
  | _, _, .nil, n + 1 => .nil
  | _, _, .cons r t, n + 1 => .cons r (paired_take t n)
theorem paired_drop {α β : Type} {F : α → β → Prop} : ∀ {xs : List α} {ys : List β}, Paired F xs ys → ∀ n, Paired F (xs.drop n) (ys.drop n)
  | _, _, h, 0 => h
  | _, _, .nil, n + 1 => .nil
  | _, _, .cons r t, n + 1 => paired_drop t n
theorem atI_paired {α β : Type} {F : α → β → Prop} {xs : List α} {ys : List β} (h : Paired F xs ys) {i : Int} {a : α} (e : atI xs i = some a) : ∃ b, atI ys i = some b ∧ F a b := by
  unfold atI at e ⊢
  rw [← paired_len h]
  cases q : ixN xs.length i with
  | none =>
    rw [q] at e
    cases e
  | some j =>
    rw [q] at e
    exact paired_at h e
theorem own_at {p : Addr} {ob : Ob} (w : Wd K st I H) {j : Nat} (h : st[j]? = some (p, ob)) : ∃ o, H p = some o ∧ ObIs K I ob o := (w.own p ob (List.mem_of_getElem? h)).2
/-- a list, to be read -/
theorem withL_rd {k : List Sv → Prop} (w : Wd K st I H) (i : IsS K I x v) (h : withL x st k) : ∃ a vs xs, v = .ref a ∧ SqL K H a vs ∧ IsSs K I xs vs ∧ k xs := by
  cases i with
  | own p =>
    obtain ⟨j, xs, hj, hk⟩ := h
    obtain ⟨o, ho, io⟩ := own_at w hj
    cases io with
    | lst hs => exact ⟨p, _, xs, rfl, .inl (.inl ho), hs, hk⟩
  | dat hd =>
    cases hd with
    | lst h1 h2 => exact ⟨_, _, _, rfl, w.sub.sl (.inl (.inl h1)), isSs_of h2, h⟩
    | fls h1 h2 => exact ⟨_, _, _, rfl, w.sub.sl h1, isSs_of h2, h⟩
    | _ => exact h.elim
/-- .. that stands in the heap as it is -/
def withX (x : Sv) (st : Store) (k : List Sv → Prop) : Prop := match x with
  | .dat (.lst ds) => k (ds.map .dat)
  | .own p => ∃ (j : Nat) (xs : List Sv), st[j]? = some (p, Ob.lst xs) ∧ k xs
  | _ => False
theorem withX_rd {k : List Sv → Prop} (w : Wd K st I H) (i : IsS K I x v) (h : withX x st k) : ∃ a vs xs, v = .ref a ∧ H a = some (.lst vs) ∧ IsSs K I xs vs ∧ k xs := by
  cases i with
  | own p =>
    obtain ⟨j, xs, hj, hk⟩ := h
    obtain ⟨o, ho, io⟩ := own_at w hj
    cases io with
    | lst hs => exact ⟨p, _, xs, rfl, ho, hs, hk⟩
  | dat hd =>
    cases hd with
    | lst h1 h2 => exact ⟨_, _, _, rfl, w.sub.at h1 (by intro k z; cases z) (by intro k z; cases z), isSs_of h2, h⟩
    | _ => exact h.elim
theorem withT_rd {k : List Sv → Prop} (w : Wd K st I H) (i : IsS K I x v) (h : withT x k) : ∃ a vs xs, v = .ref a ∧ SqT K H a vs ∧ IsSs K I xs vs ∧ k xs := by
  cases i with
  | own p => exact h.elim
  | dat hd =>
    cases hd with
    | tup h1 h2 => exact ⟨_, _, _, rfl, w.sub.st (.inl (.inl h1)), isSs_of h2, h⟩
    | ktu h1 h2 => exact ⟨_, _, _, rfl, w.sub.st h1, isSs_of h2, h⟩
    | _ => exact h.elim
theorem withI_rd {k : Int → Prop} (i : IsS K I x v) (h : withI x k) : ∃ n, v = .int n ∧ k n := by
  cases i with
  | own p => exact h.elim
  | dat hd =>
    cases hd with
    | int n => exact ⟨n, rfl, h⟩
    | _ => exact h.elim
end
/-- xs[i] -/
def gIxL : G2 := fun x y st ok => withL x st fun xs => withI y fun i => ∃ s, atI xs i = some s ∧ ok s st
def gIxT : G2 := fun x y st ok => withT x fun xs => withI y fun i => ∃ s, atI xs i = some s ∧ ok s st
/-- xs + ys, the result known -/
def gCat : G2 := fun x y st ok => withX x st fun xs => withX y st fun ys => xs.length + ys.length ≤ sizeLine ∧ ∃ ds, AllD (xs ++ ys) ds ∧ ok (.dat (.lst ds)) st
/-- a call of a built-in -/
abbrev GC := List Sv → Store → OK → Prop
def dCB (g : GC) (t : DA) : DE := fun Δ st ok ex => t Δ st (fun xs st1 => g xs st1 ok) ex
def gInt : GC := fun xs st ok => match xs with
  | [.dat (.int i)] => ok (.dat (.int i)) st
  | [.dat (.bl k)] => ok (.dat (.int (if k then 1 else 0))) st
  | _ => False
def gLenL : GC := fun xs st ok => match xs with
  | [x] => withL x st fun ys => ok (.dat (.int ys.length)) st
  | _ => False
def gLenT : GC := fun xs st ok => match xs with
  | [x] => withT x fun ys => ok (.dat (.int ys.length)) st
  | _ => False
def gMax2 : GC := fun xs st ok => match xs with
  | [.dat (.int i), .dat (.int j)] => ok (.dat (.int (if j > i then j else i))) st
  | _ => False
def gListLO : GC := fun xs st ok => match xs with
  | [x] => withL x st fun ys => ∀ p, p ∉ keys st → ok (.own p) ((p, .lst ys) :: st)
  | _ => False
/-- o[i] = v -/
def dSetL (tv to ti : DE) : DS := fun Δ st N => tv Δ st (fun v st1 => to Δ st1 (fun o st2 => ti Δ st2 (fun y st3 => match o with
  | .own p => withI y fun i => ∃ (j : Nat) (xs : List Sv) (m : Nat), st3[j]? = some (p, Ob.lst xs) ∧ ixN xs.length i = some m ∧ N.nx Δ (st3.set j (p, .lst (xs.set m v)))
  | _ => False) (exAt N Δ)) (exAt N Δ)) (exAt N Δ)
/-- xs.append(e) -/
def dApp (to te : DE) : DS := fun Δ st N => to Δ st (fun o st1 => match o with
  | .own p => (∃ (j : Nat) (xs : List Sv), st1[j]? = some (p, Ob.lst xs)) ∧ te Δ st1 (fun v st2 => ∃ (j : Nat) (xs : List Sv), st2[j]? = some (p, Ob.lst xs) ∧ xs.length < sizeLine ∧ N.nx Δ (st2.set j (p, .lst (xs ++ [v])))) (exAt N Δ)
  | _ => False) (exAt N Δ)
/-- targets -/
abbrev DG := Sv → List Sv → Store → (List Sv → Store → Prop) → Prop
def dgName (i : Nat) : DG := fun s Δ st k => k (Δ.set i s) st
abbrev DGs := List Sv → List Sv → Store → (List Sv → Store → Prop) → Prop
def dgNil : DGs := fun ss Δ st k => match ss with
  | [] => k Δ st
  | _ => False
def dgCons (g : DG) (u : DGs) : DGs := fun ss Δ st k => match ss with
  | s :: r => g s Δ st fun Δ1 st1 => u r Δ1 st1 k
  | [] => False
def dgTup (n : Nat) (u : DGs) : DG := fun s Δ st k => withT s fun ss => ss.length = n ∧ u ss Δ st k
def lowG (K : PySem.W.Frag) (g : DG) : TG := fun v σ H Q => ∃ s Δ st I k, Wd K st I H ∧ Sl K Δ I σ ∧ IsS K I s v ∧ g s Δ st k ∧ ContS K st I H k Q
def lowGs (K : PySem.W.Frag) (g : DGs) : TGs := fun vs σ H Q => ∃ ss Δ st I k, Wd K st I H ∧ Sl K Δ I σ ∧ IsSs K I ss vs ∧ g ss Δ st k ∧ ContS K st I H k Q
def dAsgG (g : DG) (t : DE) : DS := fun Δ st N => t Δ st (fun s st1 => g s Δ st1 N.nx) (exAt N Δ)
/-- for, over a list, a tuple -/
@[irreducible] def loopD (ds : List Sv) (g : DG) (body : DS) (Δ : List Sv) (st : Store) (N : DN) : Prop := ∃ J : Nat → List Sv → Store → Prop, J 0 Δ st ∧
  (∀ i d Δ' st', ds[i]? = some d → J i Δ' st' → g d Δ' st' fun Δ2 st2 => body Δ2 st2 { N with nx := J (i + 1), ct := J (i + 1), bk := N.nx }) ∧ ∀ Δ' st', J ds.length Δ' st' → N.nx Δ' st'
theorem loopD_eq (ds : List Sv) (g : DG) (body : DS) (Δ : List Sv) (st : Store) (N : DN) : loopD ds g body Δ st N = (∃ J : Nat → List Sv → Store → Prop, J 0 Δ st ∧
  (∀ i d Δ' st', ds[i]? = some d → J i Δ' st' → g d Δ' st' fun Δ2 st2 => body Δ2 st2 { N with nx := J (i + 1), ct := J (i + 1), bk := N.nx }) ∧ ∀ Δ' st', J ds.length Δ' st' → N.nx Δ' st') := by
  unfold loopD
  rfl
section
variable {K : PySem.W.Frag} {W : WX} {st : Store} {I H : Hp}
theorem lr_ixL : LR2 K (rIxL K) gIxL := by
  intro x y st I H ok Q v w wd ix iy h c
  obtain ⟨a, vs, xs, rfl, hs, hx, h⟩ := withL_rd wd ix h
  obtain ⟨n, rfl, s, hat, h⟩ := withI_rd iy h
  obtain ⟨u, hu, iu⟩ := atI_paired hx hat
  exact ⟨a, vs, n, u, rfl, rfl, hs, hu, c.now wd h iu⟩
theorem lr_ixT : LR2 K (rIxT K) gIxT := by
  intro x y st I H ok Q v w wd ix iy h c
  obtain ⟨a, vs, xs, rfl, hs, hx, h⟩ := withT_rd wd ix h
  obtain ⟨n, rfl, s, hat, h⟩ := withI_rd iy h
  obtain ⟨u, hu, iu⟩ := atI_paired hx hat
  exact ⟨a, vs, n, u, rfl, rfl, hs, hu, c.now wd h iu⟩
theorem lr_cat : LR2 K rCat gCat := by
  intro x y st I H ok Q v w wd ix iy h c
  obtain ⟨a, vs, xs, rfl, hs, hx, h⟩ := withX_rd wd ix h
  obtain ⟨b, us, ys, rfl, ht, hy, hl, h⟩ := withX_rd wd iy h
  refine ⟨a, b, vs, us, rfl, rfl, hs, ht, by rw [← paired_len hx, ← paired_len hy]; exact hl, fun p hp => ?_⟩
  obtain ⟨ds, e, h⟩ := h
  obtain ⟨w2, s2⟩ := new_known (o := .lst (vs ++ us)) wd hp
  exact c _ _ _ _ _ h w2 s2 (.dat (.lst upd_same (IsDs.mono (Ex.new (wd.sub.none hp)) (isDs_of e (paired_app hx hy)))))
def LRC (r : List V → Hp → VK → Prop) (g : GC) : Prop := ∀ xs st I H ok Q vs, Wd K st I H → IsSs K I xs vs → g xs st ok → Cont K st I H ok Q → r vs H Q
theorem low_cb {r : List V → Hp → VK → Prop} {g : GC} {t : DA} (hr : LRC (K := K) r g) : ∀ σ H Q, low K (dCB g t) W σ H Q → tCB r (lowA K t W) σ H Q := by
  rintro σ H Q ⟨Δ, st, I, ok, ex, wd, sl, h, c, cx⟩
  exact lowA_go wd sl h (fun xs st1 vs I1 H1 h1 w1 s1 i1 => hr _ _ _ _ _ _ _ w1 i1 h1 (c.go s1)) cx
theorem one_of {xs : List Sv} {vs : List V} {x : Sv} (e : xs = [x]) (h : IsSs K I xs vs) : ∃ v, vs = [v] ∧ IsS K I x v := by
  subst e
  cases h with
  | cons a b =>
    cases b
    exact ⟨_, rfl, a⟩
theorem lc_int : LRC (K := K) (fun xs H Q => (∃ i, xs = [.int i] ∧ Q (.int i) H) ∨ ∃ k, xs = [.bl k] ∧ Q (.int (if k then 1 else 0)) H) gInt := by
  intro xs st I H ok Q vs wd ix h c
  unfold gInt at h
  split at h
  · obtain ⟨v, rfl, i⟩ := one_of rfl ix
    cases i with
    | dat hd =>
      cases hd
      exact .inl ⟨_, rfl, c.now wd h (.dat (.int _))⟩
  · obtain ⟨v, rfl, i⟩ := one_of rfl ix
    cases i with
    | dat hd =>
      cases hd
      exact .inr ⟨_, rfl, c.now wd h (.dat (.int _))⟩
  · exact h.elim
theorem lc_lenL : LRC (K := K) (fun xs H Q => ∃ p ys, xs = [.ref p] ∧ (SqL K H p ys ∨ SqT K H p ys) ∧ Q (.int ys.length) H) gLenL := by
  intro xs st I H ok Q vs wd ix h c
  unfold gLenL at h
  split at h
  · obtain ⟨v, rfl, i⟩ := one_of rfl ix
    obtain ⟨a, us, ys, rfl, hs, hx, h⟩ := withL_rd wd i h
    exact ⟨a, us, rfl, .inl hs, c.now wd h (by rw [paired_len hx]; exact .dat (.int _))⟩
  · exact h.elim
theorem lc_lenT : LRC (K := K) (fun xs H Q => ∃ p ys, xs = [.ref p] ∧ (SqL K H p ys ∨ SqT K H p ys) ∧ Q (.int ys.length) H) gLenT := by
  intro xs st I H ok Q vs wd ix h c
  unfold gLenT at h
  split at h
  · obtain ⟨v, rfl, i⟩ := one_of rfl ix
    obtain ⟨a, us, ys, rfl, hs, hx, h⟩ := withT_rd wd i h
    exact ⟨a, us, rfl, .inr hs, c.now wd h (by rw [paired_len hx]; exact .dat (.int _))⟩
  · exact h.elim
theorem two_int {xs : List Sv} {vs : List V} {i j : Int} (e : xs = [.dat (.int i), .dat (.int j)]) (h : IsSs K I xs vs) : vs = [.int i, .int j] := by
  subst e
  cases h with
  | cons a b =>
    cases b with
    | cons b c =>
      cases c
      cases a with
      | dat a =>
        cases b with
        | dat b =>
          cases a
          cases b
          rfl
theorem lc_max2 : LRC (K := K) (fun xs H Q => ∃ i j, xs = [.int i, .int j] ∧ Q (.int (if j > i then j else i)) H) gMax2 := by
  intro xs st I H ok Q vs wd ix h c
  unfold gMax2 at h
  split at h
  · exact ⟨_, _, two_int rfl ix, c.now wd h (.dat (.int _))⟩
  · exact h.elim
theorem lc_listLO : LRC (K := K) (fun xs H Q => ∃ p ys, xs = [.ref p] ∧ (SqL K H p ys ∨ SqT K H p ys) ∧ ∀ l, H l = none → Q (.ref l) (upd H l (.lst ys))) gListLO := by
  intro xs st I H ok Q vs wd ix h c
  unfold gListLO at h
  split at h
  · obtain ⟨v, rfl, i⟩ := one_of rfl ix
    obtain ⟨a, us, ys, rfl, hs, hx, h⟩ := withL_rd wd i h
    refine ⟨a, us, rfl, .inl hs, fun l hl => ?_⟩
    obtain ⟨np, w2, s2⟩ := new_own (o := .lst us) (ob := .lst ys) wd hl (.lst hx)
    exact c _ _ _ _ _ (h l np) w2 s2 (.own l)
  · exact h.elim
/-- an object of one's own is written -/
theorem keys_set {st : Store} {j : Nat} {p : Addr} {ob ob' : Ob} (h : st[j]? = some (p, ob)) : keys (st.set j (p, ob')) = keys st := by
  have hj := (List.getElem?_eq_some_iff.mp h).1
  apply List.ext_getElem?
  intro i
  rw [List.getElem?_map, List.getElem?_map]
  by_cases e : j = i
  · subst e
    rw [List.getElem?_set_self hj, h]
    rfl
  · rw [List.getElem?_set_ne e]
theorem set_own {p : Addr} {j : Nat} {ob ob' : Ob} {o' : HO} (w : Wd K st I H) (h : st[j]? = some (p, ob)) (ho : ObIs K I ob' o') :
    Wd K (st.set j (p, ob')) I (upd H p o') ∧ Stp st I H (st.set j (p, ob')) I (upd H p o') := by
  obtain ⟨ip, o, hp, _⟩ := w.own p ob (List.mem_of_getElem? h)
  have pk : p ∈ keys st := List.mem_map.mpr ⟨(p, ob), List.mem_of_getElem? h, rfl⟩
  have nd := w.nd
  refine ⟨⟨fun a u e => ?_, fun q ob2 hq => ?_, by rw [keys_set h]; exact w.nd⟩, ⟨Ex.refl _, fun a u ha e => ?_, fun a e => .inl e, fun q hq => .inl (by rw [keys_set h] at hq; exact hq)⟩⟩
  · have ne : a ≠ p := ne_of_none e ip
    rw [upd_ne ne]
    exact w.sub a u e
  · obtain ⟨i, hi⟩ := List.mem_iff_getElem?.mp hq
    have hj := (List.getElem?_eq_some_iff.mp h).1
    by_cases e : j = i
    · subst e
      rw [List.getElem?_set_self hj] at hi
      cases hi
      exact ⟨ip, o', upd_same, ho⟩
    · rw [List.getElem?_set_ne e] at hi
      have qm := List.mem_of_getElem? hi
      obtain ⟨h1, u, h2, h3⟩ := w.own q ob2 qm
      have ne : q ≠ p := fun z => by
        subst z
        have k1 : (keys st)[i]? = some q := by rw [List.getElem?_map, hi]; rfl
        have k2 : (keys st)[j]? = some q := by rw [List.getElem?_map, h]; rfl
        exact e ((List.getElem?_inj (List.getElem?_eq_some_iff.mp k2).1 nd).mp (k2.trans k1.symm))
      exact ⟨h1, u, by rw [upd_ne ne]; exact h2, h3⟩
  · rw [upd_ne (fun z => ha (by rw [z]; exact pk))]
    exact e
theorem lowS_setL {tv to ti : DE} : ∀ D σ H, lowS K (dSetL tv to ti) W D σ H → tAsg (low K tv W) (gSub (low K to W) (low K ti W) rSetL) D σ H := by
  rintro D σ H ⟨Δ, st, I, N, wd, sl, h, e⟩
  refine low_go wd sl h (fun v st1 vv I1 H1 h1 w1 s1 i1 => ?_) (cx_of sl e)
  refine low_go w1 (sl.mono s1.ii) h1 (fun o st2 ov I2 H2 h2 w2 s2 i2 => ?_) (cx_of (sl.mono s1.ii) (e.go s1))
  have s12 := s1.trans s2
  refine low_go w2 (sl.mono s12.ii) h2 (fun y st3 yv I3 H3 h3 w3 s3 i3 => ?_) (cx_of (sl.mono s12.ii) (e.go s12))
  have s13 := s12.trans s3
  cases i2 with
  | dat hd => exact h3.elim
  | own p =>
    obtain ⟨n, rfl, j, xs, m, hj, hm, hn⟩ := withI_rd i3 h3
    obtain ⟨u, hu, io⟩ := own_at w3 hj
    cases io with
    | @lst _ us hs =>
      obtain ⟨w4, s4⟩ := set_own (o' := .lst (us.set m vv)) w3 hj (.lst (paired_set (i1.mono (s2.ii.trans s3.ii)) hs m))
      exact ⟨p, us, n, m, rfl, rfl, hu, by rw [← paired_len hs]; exact hm, e.nx _ _ _ _ _ hn w4 (s13.trans s4) (sl.mono s13.ii)⟩
theorem lowS_app {to te : DE} : ∀ D σ H, lowS K (dApp to te) W D σ H → tDrop (tBM K "list" rAppend (low K to W) (tCons (low K te W) tNil)) D σ H := by
  rintro D σ H ⟨Δ, st, I, N, wd, sl, h, e⟩
  refine low_go wd sl h (fun o st1 ov I1 H1 h1 w1 s1 i1 => ?_) (cx_of sl e)
  cases i1 with
  | dat hd => exact h1.elim
  | own p =>
    obtain ⟨⟨j, xs, hj⟩, h1⟩ := h1
    obtain ⟨u, hu, io⟩ := own_at w1 hj
    cases io with
    | @lst _ us hs =>
      refine ⟨.inl ⟨rfl, us, .inl (.inl hu)⟩, low_go w1 (sl.mono s1.ii) h1 (fun v st2 vv I2 H2 h2 w2 s2 i2 => ?_) (cx_of (sl.mono s1.ii) (e.go s1))⟩
      obtain ⟨j2, xs2, hj2, hl, hn⟩ := h2
      obtain ⟨u2, hu2, io2⟩ := own_at w2 hj2
      cases io2 with
      | @lst _ us2 hs2 =>
        obtain ⟨w3, s3⟩ := set_own (o' := .lst (us2 ++ [vv])) w2 hj2 (.lst (paired_app hs2 (.cons i2 .nil)))
        exact ⟨p, us2, vv, rfl, rfl, hu2, by rw [← paired_len hs2]; exact hl, e.nx _ _ _ _ _ hn w3 ((s1.trans s2).trans s3) (sl.mono (s1.trans s2).ii)⟩
/-- targets -/
theorem lowG_name {i : Nat} : ∀ v σ H Q, lowG K (dgName i) v σ H Q → gName i v σ H Q := by
  rintro v σ H Q ⟨s, Δ, st, I, k, wd, sl, iv, h, c⟩
  exact c _ _ _ _ _ h wd (Stp.refl _ _ _) (sl.set iv)
theorem lowGs_nil : ∀ v σ H Q, lowGs K dgNil v σ H Q → gNil v σ H Q := by
  rintro v σ H Q ⟨s, Δ, st, I, k, wd, sl, iv, h, c⟩
  cases iv with
  | nil => exact ⟨rfl, c _ _ _ _ _ h wd (Stp.refl _ _ _) sl⟩
  | cons a b => exact h.elim
theorem lowGs_cons {g : DG} {u : DGs} : ∀ v σ H Q, lowGs K (dgCons g u) v σ H Q → gCons (lowG K g) (lowGs K u) v σ H Q := by
  rintro v σ H Q ⟨s, Δ, st, I, k, wd, sl, iv, h, c⟩
  cases iv with
  | nil => exact h.elim
  | cons a b =>
    refine ⟨_, _, rfl, _, Δ, st, I, _, wd, sl, a, h, fun Δ1 st1 σ1 I1 H1 h1 w1 s1 l1 => ?_⟩
    exact ⟨_, Δ1, st1, I1, k, w1, l1, paired_mono (fun _ _ => IsS.mono s1.ii) b, h1, c.go s1⟩
theorem lowG_tup {n : Nat} {u : DGs} : ∀ v σ H Q, lowG K (dgTup n u) v σ H Q → gTup K n (lowGs K u) v σ H Q := by
  rintro v σ H Q ⟨s, Δ, st, I, k, wd, sl, iv, h, c⟩
  obtain ⟨a, vs, xs, rfl, ht, hx, hl, h⟩ := withT_rd wd iv h
  exact ⟨a, vs, rfl, ht, by rw [← paired_len hx]; exact hl, xs, Δ, st, I, k, wd, sl, hx, h, c⟩
theorem lowS_asgG {g : DG} {t : DE} : ∀ D σ H, lowS K (dAsgG g t) W D σ H → tAsg (low K t W) (lowG K g) D σ H := by
  rintro D σ H ⟨Δ, st, I, N, wd, sl, h, e⟩
  exact low_go wd sl h (fun s st1 v I1 H1 h1 w1 s1 i1 => ⟨s, Δ, st1, I1, _, w1, sl.mono s1.ii, i1, h1, e.nx.go s1⟩) (cx_of sl e)
/-- loops -/
theorem loop_turn {g : DG} {body : DS} {N : DN} {D : Ends} {J : Nat → List Sv → Store → Prop} {i : Nat} {d : Sv} {v : V} {Δ' : List Sv} {st' : Store} {σ' : St} {I' H' : Hp}
    (e : Ends_ K st I H N W D) (w : Wd K st' I' H') (l : Sl K Δ' I' σ') (s : Stp st I H st' I' H') (iv : IsS K I' d v)
    (h : g d Δ' st' fun Δ2 st2 => body Δ2 st2 { N with nx := J (i + 1), ct := J (i + 1), bk := N.nx }) :
    lowG K g v σ' H' fun σ2 H2 => lowS K body W { D with nx := fun σ3 H3 => ∃ Δ3 st3 I3, J (i + 1) Δ3 st3 ∧ Wd K st3 I3 H3 ∧ Sl K Δ3 I3 σ3 ∧ Stp st I H st3 I3 H3, ct := fun σ3 H3 => ∃ Δ3 st3 I3, J (i + 1) Δ3 st3 ∧ Wd K st3 I3 H3 ∧ Sl K Δ3 I3 σ3 ∧ Stp st I H st3 I3 H3, bk := D.nx } σ2 H2 := by
  refine ⟨d, Δ', st', I', _, w, l, iv, h, fun Δ2 st2 σ2 I2 H2 h2 w2 s2 l2 => ?_⟩
  have ss := s.trans s2
  refine lowS_go w2 l2 h2 ⟨fun Δ3 st3 σ3 I3 H3 h3 w3 s3 l3 => ⟨Δ3, st3, I3, h3, w3, l3, ss.trans s3⟩, (e.go ss).rt, (e.go ss).nx, fun Δ3 st3 σ3 I3 H3 h3 w3 s3 l3 => ⟨Δ3, st3, I3, h3, w3, l3, ss.trans s3⟩, (e.go ss).ex⟩
end
end DD
namespace DD
open PySem PySem.Spec PyProof.Rows L2
section
variable {X : Cx} {W : WX} {a b c e : Expr} {es : List Expr} {ta tb tc te : DE} {pos p : Pos}
abbrev PEd (X : Cx) (W : WX) (e : Expr) (t : DE) : Prop := PE X e (low X.K t W)
abbrev PTd (X : Cx) (W : WX) (e : Expr) (t : DT) : Prop := PT X e (lowT X.K t W)
abbrev PAd (X : Cx) (W : WX) (es : List Expr) (t : DA) : Prop := PA X es (lowA X.K t W)
abbrev PSd (X : Cx) (W : WX) (s : Stmt) (t : DS) : Prop := PS X s (lowS X.K t W)
abbrev PBd (X : Cx) (W : WX) (s : List Stmt) (t : DS) : Prop := PSs X s (lowS X.K t W)
abbrev PGd (X : Cx) (e : Expr) (g : DG) : Prop := PG X e (lowG X.K g)
abbrev PGsd (X : Cx) (es : List Expr) (g : DGs) : Prop := PGs X es (lowGs X.K g)
theorem dv (i : Nat) {x : Str} (hN : X.N[i]? = some x := by rfl) (hv : Vis X.env.scope x := by first | exact Or.inl rfl | exact Or.inr (Or.inl rfl) | exact Or.inr (Or.inr rfl)) (hd : (x == ("__debug__" : Str)) = false := by decide)
    (hcd : (x == ("__classdict__" : Str)) = false := by decide) : PEd X W (.Name x pos) (dVar i) := PE.imp (pe_var hN hv hd hcd) low_var
theorem di {i j} : PEd X W (.Constant (.int i) j pos) (dC (.int i)) := PE.imp pe_int (low_c fun _ => .int i)
theorem ds {i j} : PEd X W (.Constant (.str i) j pos) (dC (.str i)) := PE.imp pe_str (low_c fun _ => .str i)
theorem db {i j} : PEd X W (.Constant (.bool i) j pos) (dC (.bl i)) := PE.imp pe_bl (low_c fun _ => .bl i)
theorem dn {j} : PEd X W (.Constant .none j pos) (dC .non) := PE.imp pe_non (low_c fun _ => .non)
/-- an int that the module holds -/
theorem dgl {x : Str} {i : Int} {u : Value} (hm : X.mg x = some u) (r : RelV (.int i) u) (hg : Gl X x := by rfl) (hd : (x == ("__debug__" : Str)) = false := by decide) : PEd X W (.Name x pos) (dC (.int i)) := PE.imp (pe_glob hg hm r hd) (low_c fun _ => .int i)
theorem dop {op : Operator} {r : R2} {g : G2} (ho : OpR X (binaryOp op) r) (hr : LR2 X.K r g) (ha : PEd X W a ta) (hb : PEd X W b tb) : PEd X W (.BinOp a op b pos) (dOp g ta tb) := PE.imp (pe_op ho ha hb) (low_op hr)
theorem dcmp {op : CmpOp} {r : R2} {g : G2} (ho : OpR X (compareOp op) r) (hr : LR2 X.K r g) (ha : PEd X W a ta) (hb : PEd X W b tb) (hm : behindInMarks op b = false) : PEd X W (.Compare a [op] [b] pos) (dOp g ta tb) := PE.imp (pe_cmpR ho ha hb hm) (low_op hr)
theorem tcmp {op : CmpOp} {r : R2} {g : G2} (ho : OpR X (compareOp op) r) (hr : LR2 X.K r g) (ha : PEd X W a ta) (hb : PEd X W b tb) (hm : behindInMarks op b = false) : PTd X W (.Compare a [op] [b] pos) (dTest (dOp g ta tb)) :=
  PT.imp (pt_cmpR ho ha hb hm) fun σ H Q h => by
    obtain ⟨Δ, st, I, ok, ex, wd, sl, h, c, cx⟩ := h
    refine low_op hr _ _ _ ⟨Δ, st, I, _, ex, wd, sl, h, fun s st' v I' H' h' w' s' i' => ?_, cx⟩
    cases i' with
    | own p => exact h'.elim
    | dat hd =>
      cases hd with
      | bl k => exact ⟨k, rfl, c _ _ _ _ h' w' s'⟩
      | _ => exact h'.elim
theorem dchain {op op' : CmpOp} {r r' : R2} {g g' : G2} (ho : OpR X (compareOp op) r) (ho' : OpR X (compareOp op') r') (hr : LR2 X.K r g) (hr' : LR2 X.K r' g') (ha : PEd X W a ta) (hb : PEd X W b tb) (hc : PEd X W c tc)
    (hm : lastMarks [op, op'] [b, c] = false := by with_unfolding_all rfl) : PEd X W (.Compare a [op, op'] [b, c] pos) (dChain g g' ta tb tc) := PE.imp (pe_chain ho ho' ha hb hc hm) (low_chain hr hr')
abbrev gAdd : G2 := gI0 fun i j => .int (i + j)
abbrev gSub' : G2 := gI0 fun i j => .int (i - j)
abbrev gMul : G2 := gI CMul fun i j => .int (i * j)
abbrev gDiv : G2 := gI CDiv fun i j => .int (i / j)
abbrev gMod : G2 := gI (fun _ j => 0 < j) fun i j => .int (i % j)
abbrev gLt : G2 := gI0 fun i j => .bl (decide (i < j))
abbrev gLe : G2 := gI0 fun i j => .bl (decide (i ≤ j))
abbrev gGt : G2 := gI0 fun i j => .bl (decide (j < i))
abbrev gGe : G2 := gI0 fun i j => .bl (decide (j ≤ i))
theorem lr_add {K} : LR2 K (rI0 fun i j => .int (i + j)) gAdd := lr_I0 fun _ _ _ _ => .int _
theorem lr_sub {K} : LR2 K (rI0 fun i j => .int (i - j)) gSub' := lr_I0 fun _ _ _ _ => .int _
theorem lr_mul {K} : LR2 K (rI CMul fun i j => .int (i * j)) gMul := lr_I fun _ _ _ _ => .int _
theorem lr_div {K} : LR2 K (rI CDiv fun i j => .int (i / j)) gDiv := lr_I fun _ _ _ _ => .int _
theorem lr_mod {K} : LR2 K (rI (fun _ j => 0 < j) fun i j => .int (i % j)) gMod := lr_I fun _ _ _ _ => .int _
theorem lr_lt {K} : LR2 K (rI0 fun i j => .bl (decide (i < j))) gLt := lr_I0 fun _ _ _ _ => .bl _
theorem lr_le {K} : LR2 K (rI0 fun i j => .bl (decide (i ≤ j))) gLe := lr_I0 fun _ _ _ _ => .bl _
theorem lr_gt {K} : LR2 K (rI0 fun i j => .bl (decide (j < i))) gGt := lr_I0 fun _ _ _ _ => .bl _
theorem lr_ge {K} : LR2 K (rI0 fun i j => .bl (decide (j ≤ i))) gGe := lr_I0 fun _ _ _ _ => .bl _
theorem dix {r : R2} {g : G2} (hr : IxR X r) (hg : LR2 X.K r g) (ha : PEd X W a ta) (hb : PEd X W b tb) (hs : PlainIx b := by exact fun _ _ => rfl) : PEd X W (.Subscript a b pos) (dOp g ta tb) := PE.imp (pe_ix hr ha hb hs) (low_op hg)
theorem dcb {id : String} {x : Str} {r : List V → Hp → VK → Prop} {g : GC} {t : DA} (hc : CallR X (.builtin id) r) (hr : LRC (K := X.K) r g) (hm : X.mg x = none) (hv : bootBuiltins x = some (.builtin id)) (ha : PAd X W (e :: es) t) (hg : Gl X x := by rfl) (hn : x ≠ "__name__" := by decide) (hdb : (x == ("__debug__" : Str)) = false := by decide)
    (he : starEach (e :: es) X.env = (false, eval e X.env) :: starEach es X.env := by rfl) (hpl : (backTo pos (starEach es X.env)).any (·.1) = false := by rfl) : PEd X W (.Call (.Name x p) (e :: es) [] pos) (dCB g t) := PE.imp (pe_callB hc hg hm hv ha hn hdb he hpl) (low_cb hr)
theorem dct {T : String} {x : Str} {r : List V → Hp → VK → Prop} {g : GC} {t : DA} (hc : CallR X (.type T) r) (hr : LRC (K := X.K) r g) (hm : X.mg x = none) (hv : bootBuiltins x = some (.type T)) (ha : PAd X W (e :: es) t) (hg : Gl X x := by rfl) (hn : x ≠ "__name__" := by decide) (hdb : (x == ("__debug__" : Str)) = false := by decide)
    (he : starEach (e :: es) X.env = (false, eval e X.env) :: starEach es X.env := by rfl) (hpl : (backTo pos (starEach es X.env)).any (·.1) = false := by rfl) : PEd X W (.Call (.Name x p) (e :: es) [] pos) (dCB g t) := PE.imp (pe_callTy hc hg hm hv ha hn hdb he hpl) (low_cb hr)
theorem anil : PAd X W [] dNil := PA.imp pa_nil lowA_nil
theorem acons {t : DA} (he : PEd X W e te) (ha : PAd X W es t) (hs : starEach (e :: es) X.env = (false, eval e X.env) :: starEach es X.env := by rfl) : PAd X W (e :: es) (dCons te t) := PA.imp (pa_cons he ha hs) lowA_cons
/-- the size of a display -/
def szd (t : DA) : DA := fun Δ st ok ex => t Δ st (fun xs st1 => xs.length ≤ sizeLine ∧ ok xs st1) ex
theorem dtup {x1} {t : DA} (h : PAd X W es t) : PEd X W (.Tuple es x1 pos) (dTup (szd t)) := PE.imp (pe_tup h) low_tup
theorem dlst {t : DA} (h : PAd X W es t) : PEd X W (.List es pos) (dLst (szd t)) := PE.imp (pe_lst h) low_lst
theorem dlstO {t : DA} (h : PAd X W es t) : PEd X W (.List es pos) (dLstO (szd t)) := PE.imp (pe_lst h) low_lstO
/-- f(..) -/
theorem dcall {ct : Ct} {k : Nat} {f : Addr} {fd : FuncData} {ps : List Str} {x : Str} {dds : List Dt} {dvs : List V} {dus : List Value} {t : DA} (F : FnOk X.prog X.w X.K X.mg X.base (L2.CX X.prog X.w) k f fd ps (lowF X.K ct)) (hr : Room k X.A) (hm : X.mg x = some (.ref f)) (hk : PySem.W.keepIn X.K (.ref f) = true)
    (hb : Binds X.K fd ps dus) (hd : Vals dvs dus) (hdd : ∀ I, IsSs X.K I (dds.map Sv.dat) dvs) (tk : Takes X W) (ha : PAd X W (e :: es) t) (hg : Gl X x := by rfl) (hdb : (x == ("__debug__" : Str)) = false := by decide)
    (he : starEach (e :: es) X.env = (false, eval e X.env) :: starEach es X.env := by rfl) (hpl : (backTo pos (starEach es X.env)).any (·.1) = false := by rfl) : PEd X W (.Call (.Name x p) (e :: es) [] pos) (dCall ct dds t) :=
  PE.imp (pe_callSD F hr hg hm hk hb hd (fun σ => passAt tk σ) ha hdb he hpl) (low_call hdd)
variable {s : Stmt} {ss : List Stmt} {t u : DS}
theorem bnil : PBd X W [] dNext := PSs.imp pss_nil lowS_next
theorem bcons (h1 : PSd X W s t) (h2 : PBd X W ss u) : PBd X W (s :: ss) (dSeq t u) := PSs.imp (pss_cons h1 h2) lowS_seq
theorem bone (h1 : PSd X W s t) : PBd X W [s] t := pss_one h1
theorem sset (i : Nat) {x : Str} {pos' : Pos} (hN : X.N.Nodup) (he : PEd X W e te) (hi : X.N[i]? = some x := by rfl) (hx : Loc X.env.scope x := by first | exact Or.inl rfl | exact Or.inr rfl) (hs : swapsWith e (some (.Name x pos')) pos.line X.env = pure false := by rfl)
    (hf : X.fn x = true ∨ X.env.scope.names.lookup x = some .local := by first | exact .inl rfl | exact .inr rfl | assumption) : PSd X W (.Assign [.Name x pos'] e pos) (dAsg i te) := PS.imp (ps_set hN hi hx he hs hf) lowS_asg
theorem sret (he : PEd X W e te) : PSd X W (.Return (some e) pos) (dRet te) := PS.imp (ps_ret he) lowS_ret
theorem sif {tt : DT} (hc : PTd X W c tt) (h1 : PBd X W ss t) {ss' : List Stmt} (h2 : PBd X W ss' u) : PSd X W (.If c ss ss' pos) (dIfS tt t u) := PS.imp (ps_if hc h1 h2) lowS_if
theorem ssetL {o i : Expr} {tv to ti : DE} {p2 : Pos} (hv : PEd X W e tv) (ho : PEd X W o to) (hi : PEd X W i ti)
    (ha : ∀ v, assign (.Subscript o i p2) X.env v = (do
      let ov ← holding [v] (eval o X.env)
      let iv ← holding [v, ov] (eval i X.env)
      standAt p2
      holding [v, ov, iv] (setItem ov iv v)
      release [v, ov, iv] []) := by intro _; rfl)
    (hs : swapsWithSole [.Subscript o i p2] e pos.line X.env = pure false := by rfl) (hw : swappedStores [.Subscript o i p2] e X.env = pure none := by rfl)
    (h1 : (assignEach [.Subscript o i p2] X.env).map (·.2) = [assign (.Subscript o i p2) X.env] := by rfl) : PSd X W (.Assign [.Subscript o i p2] e pos) (dSetL tv to ti) :=
  PS.imp (ps_asg hv (pg_sub ho hi set_list ha) hs hw h1) lowS_setL
theorem gname (i : Nat) {x : Str} (hN : X.N.Nodup) (hi : X.N[i]? = some x := by rfl) (hx : Loc X.env.scope x := by first | exact Or.inl rfl | exact Or.inr rfl) (hf : X.fn x = true ∨ X.env.scope.names.lookup x = some .local := by first | exact .inl rfl | exact .inr rfl | assumption) : PGd X (.Name x pos) (dgName i) :=
  ⟨fun pins s σ H v u Q I r h => (pg_name hN hi hx hf).run pins s σ H v u Q I r (lowG_name _ _ _ _ h)⟩
end
inductive AllK {κ : Type} : List (κ × Sv) → List (κ × Dt) → Prop
  | nil : AllK [] []
  | cons {k : κ} {d : Dt} {xs : List (κ × Sv)} {ds : List (κ × Dt)} : AllK xs ds → AllK ((k, .dat d) :: xs) ((k, d) :: ds)
theorem isDk_of {K : PySem.W.Frag} {I : Hp} : ∀ {xs : List (Key × Sv)} {ds : List (Key × Dt)} {vs : List (Key × V)}, AllK xs ds → Paired (RK K I) xs vs → IsDk K I ds vs
  | _, _, _, .nil, .nil => .nil
  | _, _, (_, _) :: _, .cons a, .cons ⟨e, .dat h⟩ r => by
    cases e
    exact .cons h (isDk_of a r)
theorem isDt_of {K : PySem.W.Frag} {I : Hp} : ∀ {xs : List (List Key × Sv)} {ds : List (List Key × Dt)} {vs : List (List Key × V)}, AllK xs ds → Paired (RK K I) xs vs → IsDt K I ds vs
  | _, _, _, .nil, .nil => .nil
  | _, _, (_, _) :: _, .cons a, .cons ⟨e, .dat h⟩ r => by
    cases e
    exact .cons h (isDt_of a r)
theorem AllK.map {κ α : Type} {f : α → κ} {g : α → Dt} : ∀ xs : List α, AllK (xs.map fun x => (f x, .dat (g x))) (xs.map fun x => (f x, g x))
  | [] => .nil
  | _ :: xs => .cons (AllK.map xs)
inductive ObD : Ob → Dt → Prop
  | lst {xs : List Sv} {ds : List Dt} : AllD xs ds → ObD (.lst xs) (.lst ds)
  | dic {xs : List (Key × Sv)} {ds : List (Key × Dt)} : AllK xs ds → ObD (.dic xs) (.dic ds)
  | dtt {xs : List (List Key × Sv)} {ds : List (List Key × Dt)} : AllK xs ds → ObD (.dtt xs) (.dtt ds)
inductive Fin : Sv → Store → Sv → Store → Prop
  | keep {s : Sv} {st st' : Store} : st'.Sublist st → Fin s st s st'
  | pub {p : Addr} {ob : Ob} {d : Dt} {st st' : Store} {j : Nat} : st[j]? = some (p, ob) → ObD ob d → p ∉ keys st' → st'.Sublist st → Fin (.own p) st (.dat d) st'
def endsOf (ok : OK) (ex : EK) : DN where
  nx := fun _ st' => ∃ st'', st''.Sublist st' ∧ ok (.dat .non) st''
  rt := fun s st' => ∃ s' st'', Fin s st' s' st'' ∧ ok s' st''
  bk := fun _ _ => False
  ct := fun _ _ => False
  ex := fun x _ st' => ∃ st'', st''.Sublist st' ∧ ex x st''
section
variable {K : PySem.W.Frag} {st st' : Store} {I I' H H' : Hp}
theorem keys_sub (h : st'.Sublist st) : (keys st').Sublist (keys st) := h.map _
theorem wd_drop (w : Wd K st I H) (h : st'.Sublist st) : Wd K st' I H := ⟨w.sub, fun p ob hp => w.own p ob (h.subset hp), w.nd.sublist (keys_sub h)⟩
theorem stp_drop {st0 : Store} {I0 H0 : Hp} (s : Stp st0 I0 H0 st I H) (h : st'.Sublist st) : Stp st0 I0 H0 st' I H := ⟨s.ii, s.hh, s.nw, fun p hp => s.ks p ((keys_sub h).subset hp)⟩
theorem fin_ok {st0 : Store} {I0 H0 : Hp} {s s' : Sv} {v : V} (w : Wd K st I H) (sp : Stp st0 I0 H0 st I H) (i : IsS K I s v) (f : Fin s st s' st') : ∃ I', Wd K st' I' H ∧ Stp st0 I0 H0 st' I' H ∧ IsS K I' s' v := by
  cases f with
  | keep h => exact ⟨I, wd_drop w h, stp_drop sp h, i⟩
  | @pub p ob d _ _ j hj od np h =>
    cases i
    have hm := List.mem_of_getElem? hj
    obtain ⟨ip, o, hp, io⟩ := w.own p ob hm
    have pk : p ∈ keys st := List.mem_map.mpr ⟨_, hm, rfl⟩
    refine ⟨upd I p o, ⟨fun a u e => ?_, fun q ob2 hq => ?_, w.nd.sublist (keys_sub h)⟩, ⟨sp.ii.trans (Ex.new ip), sp.hh, fun a ha => ?_, fun q hq => sp.ks q ((keys_sub h).subset hq)⟩, ?_⟩
    · by_cases e1 : a = p
      · subst e1
        rw [upd_same] at e
        cases e
        exact .inl hp
      · rw [upd_ne e1] at e
        exact w.sub a u e
    · obtain ⟨h1, u, h2, h3⟩ := w.own q ob2 (h.subset hq)
      have ne : q ≠ p := fun z => np (z ▸ List.mem_map.mpr ⟨(q, ob2), hq, rfl⟩)
      exact ⟨by rw [upd_ne ne]; exact h1, u, h2, h3.mono (Ex.new ip)⟩
    · by_cases e1 : a = p
      · subst e1
        rcases sp.ks a pk with q | q
        · exact .inr (.inr (.inl q))
        · exact .inr (.inl q)
      · rw [upd_ne e1] at ha
        exact sp.nw a ha
    · cases od with
      | lst ad =>
        cases io with
        | lst hs => exact .dat (.lst upd_same ((isDs_of ad hs).mono (Ex.new ip)))
      | dic ad =>
        cases io with
        | dic hs => exact .dat (.dic (.inl upd_same) ((isDk_of ad hs).mono (Ex.new ip)))
      | dtt ad =>
        cases io with
        | dtt hs => exact .dat (.dtt (.inl upd_same) ((isDt_of ad hs).mono (Ex.new ip)))
end
theorem sl_start {K : PySem.W.Frag} {I : Hp} {N : List Str} {ss : List Sv} {vs : List V} (h : IsSs K I ss vs) : Sl K (ss ++ List.replicate (N.length - ss.length) .un) I (L2.start N vs) := by
  have e := paired_len h
  unfold L2.start
  rw [← e]
  refine ⟨by simp [e], fun i s hs => ?_⟩
  by_cases hi : i < ss.length
  · rw [List.getElem?_append_left hi] at hs
    obtain ⟨v, hv, iv⟩ := paired_at h hs
    refine .inr ⟨v, ?_, iv⟩
    rw [List.getElem?_append_left (by rw [List.length_map, ← e]; exact hi), List.getElem?_map, hv]
    rfl
  · rw [List.getElem?_append_right (by omega)] at hs
    have := List.mem_of_getElem? hs
    exact .inl (List.mem_replicate.mp this).2
section
variable {P : Program} {w : World} {K : PySem.W.Frag} {mg : Str → Option Value} {base : Heap}
/-- what is wanted of an exception within a def -/
abbrev WF (E : XK) : WX := fun cls d _ H => E cls d H
abbrev cxD (P : Program) (w : World) (K : PySem.W.Frag) (mg : Str → Option Value) (base : Heap) (N : List Str) (qual : Str) (scope : Scope) (f : Addr) (cdv : Value) (A : Around) (outer : List Env) (s : Shared) (H : Hp) (E : XK) : Cx := cxOf (L2.CX P w) P w K mg base N qual scope f cdv A outer s H E
theorem fn_low {x qual : Str} {st : Stmt} {f : Addr} {fd : FuncData} {N ps : List Str} {k : Nat} {ct : Ct} (t : DS) (F : Fun K x qual st f fd) (S : FnScope N ps (defScope st)) (len : ∀ ss st ok ex, ct ss st ok ex → ss.length = ps.length)
    (hsem : ∀ ss st ok ex, ct ss st ok ex → t (ss ++ List.replicate (N.length - ss.length) .un) st (endsOf ok ex))
    (hbody : ∀ (cdv : Value) (A : Around) (outer : List Env) (s : Shared) (H : Hp) (E : XK), Room k (A.deeper (envOfC qual (defScope st) s.heap.objs.size f cdv)) → Takes (cxD P w K mg base N qual (defScope st) f cdv A outer s H E) (WF E) →
      PassesOwn (model P w) (cxD P w K mg base N qual (defScope st) f cdv A outer s H E).A (cxD P w K mg base N qual (defScope st) f cdv A outer s H E).env (cxD P w K mg base N qual (defScope st) f cdv A outer s H E).xe →
      PBd (cxD P w K mg base N qual (defScope st) f cdv A outer s H E) (WF E) (defBody st) t) :
    FnOk P w K mg base (L2.CX P w) (k + 1) f fd ps (lowF K ct) := by
  refine F.okX S (fun vs H Q E h => ?_) (fun cdv A outer s H vs Q E hr h => ?_)
  · obtain ⟨ss, st, I, ok, ex, wd, iv, h, _⟩ := h
    rw [← paired_len iv]
    exact len _ _ _ _ h
  · obtain ⟨ss, st0, I, ok, ex, wd, iv, h, c, cx⟩ := h
    refine ⟨_, hbody cdv A outer s H E hr (takes_of rfl rfl rfl rfl) (passes_of rfl), ?_⟩
    refine lowS_go wd (sl_start iv) (hsem _ _ _ _ h) ⟨?_, ?_, ?_, ?_, ?_⟩
    · rintro Δ st' σ' I' H' ⟨st'', hs, h'⟩ w' s' l'
      exact c _ _ _ _ _ h' (wd_drop w' hs) (stp_drop s' hs) (.dat .non)
    · rintro s st' v I' H' ⟨s', st'', hf, h'⟩ w' sp i'
      obtain ⟨I2, w2, s2, i2⟩ := fin_ok w' sp i' hf
      exact c _ _ _ _ _ h' w2 s2 i2
    · intro _ _ _ _ _ h'
      exact h'.elim
    · intro _ _ _ _ _ h'
      exact h'.elim
    · rintro x Δ' st' cls d σ' I' H' ⟨st'', hs, h'⟩ w' sp l' xi
      exact cx x st'' cls d I' H' h' (wd_drop w' hs) (stp_drop sp hs) xi
end
end DD
namespace DD
open PySem PySem.Spec PyProof.Rows L2
inductive Kd where
  | non | bl | int | str | lst | tup | dic
def Kd.nm : Kd → String
  | .non => "NoneType" | .bl => "bool" | .int => "int" | .str => "str" | .lst => "list" | .tup => "tuple" | .dic => "dict"
/-- a value of the first kind is one of the second -/
def Kd.isK : Kd → Kd → Bool
  | .non, .non => true | .bl, .bl => true | .int, .int => true | .str, .str => true | .lst, .lst => true | .tup, .tup => true | .dic, .dic => true
  | .bl, .int => true
  | _, _ => false
theorem kd_ok : ∀ a b : Kd, kitB a.nm b.nm = some (a.isK b) := by
  intro a b
  cases a <;> cases b <;> decide +kernel
def kdD : Dt → Option Kd
  | .non => some .non | .bl _ => some .bl | .int _ => some .int | .str _ => some .str | .lst _ => some .lst | .fls _ => some .lst | .tup _ => some .tup | .ktu _ => none | .dic _ => some .dic | _ => none
/-- what isinstance asks of a class of one's own -/
structure InsC (K : PySem.W.Frag) (C : Addr) : Prop where
  cl : Cls K C
  ha : PySem.W.findIn K (.ref C) "__class__" = some (some (.builtin "object.__class__"))
  hn : PySem.W.specialIn K (.builtin "object.__class__") "__get__" = some (some (.builtin "getset_descriptor.__get__"))
  ht : PySem.W.takesIn K (.builtin "object.__class__") = some true
  hm : PySem.W.mroIn K C (.type "object") = some true
/-- isinstance(x, a built-in class) -/
def dIsi (K : PySem.W.Frag) (k : Kd) (te : DE) : DE := fun Δ st ok ex => te Δ st (fun s st1 => match s with
  | .dat (.ins C _) => InsC K C ∧ PySem.W.kitOne K (.ref C) (.type k.nm) = some false ∧ ok (.dat (.bl false)) st1
  | .dat d => match kdD d with
    | some j => ok (.dat (.bl (j.isK k))) st1
    | none => False
  | _ => False) ex
section
variable {K : PySem.W.Frag} {W : WX} {st : Store} {I H : Hp}
theorem ty_of {d : Dt} {v : V} {k : Kd} (w : Wd K st I H) (h : IsD K I d v) (e : kdD d = some k) : TyX K H v (.type k.nm) := by
  cases h <;> try cases e
  · exact .base .non
  · exact .base (.bl _)
  · exact .base (.int _)
  · exact .base (.str _)
  · exact .base (.tup (w.sub.at ‹_› (by intro k z; cases z) (by intro k z; cases z)))
  · exact .base (.lst (w.sub.at ‹_› (by intro k z; cases z) (by intro k z; cases z)))
  · rename_i h1 h2
    rcases w.sub.sl h1 with (h | ⟨o, h⟩) | ⟨o, its, n, h, c, _⟩
    · exact .base (.lst h)
    · exact .base (.frz h)
    · exact .kList h c
  · rename_i h1 h2
    rcases w.sub.rd h1 with h | ⟨o, h⟩
    · exact .base (.dK h)
    · exact .fDict h
theorem ty_ins {C : Addr} {fs : List (Str × Dt)} {v : V} (w : Wd K st I H) (h : IsD K I (.ins C fs) v) (c : InsC K C) : TyX K H v (.ref C) := by
  cases h with
  | ins h1 h2 => exact .base (.ins (w.sub.at h1 (by intro k z; cases z) (by intro k z; cases z)) c.cl c.ha c.hn c.ht c.hm)
theorem low_isi {k : Kd} {te : DE} : ∀ σ H Q, low K (dIsi K k te) W σ H Q → tCB (rIsi K) (tCons (low K te W) (tCons (tC (.ty k.nm)) tNil)) σ H Q := by
  rintro σ H Q ⟨Δ, st, I, ok, ex, wd, sl, h, c, cx⟩
  refine low_go wd sl h (fun x st1 v I1 H1 h1 w1 s1 i1 => ?_) cx
  cases i1 with
  | own p => exact h1.elim
  | @dat d _ hd =>
    by_cases hi : ∃ C fs, d = .ins C fs
    · obtain ⟨C, fs, rfl⟩ := hi
      obtain ⟨c1, c2, h1⟩ := h1
      exact ⟨v, .ty k.nm, _, _, false, rfl, .ty _, ty_ins w1 hd c1, c2, (c.go s1).now w1 h1 (.dat (.bl _))⟩
    · cases e : kdD d with
      | none =>
        cases d with
        | ins C fs => exact absurd ⟨_, _, rfl⟩ hi
        | raw v => exact (h1 : False).elim
        | ktu xs => exact (h1 : False).elim
        | dtt xs => exact (h1 : False).elim
        | exc a dd C fs => exact (h1 : False).elim
        | lam cl k => exact (h1 : False).elim
        | _ => cases e
      | some j =>
        have h2 : ok (.dat (.bl (j.isK k))) st1 := by
          cases d <;> first | exact absurd ⟨_, _, rfl⟩ hi | (cases e <;> exact h1)
        exact ⟨v, .ty k.nm, _, _, _, rfl, .ty _, ty_of w1 hd e, kit_ty (kd_ok j k), (c.go s1).now w1 h2 (.dat (.bl _))⟩
end
/-- what == tells of two scalars -/
def eqSc : Dt → Dt → Option Bool
  | .non, .non => some true
  | .non, .int _ => some false | .int _, .non => some false | .non, .bl _ => some false | .bl _, .non => some false | .non, .str _ => some false | .str _, .non => some false
  | .int i, .int j => some (decide (i = j)) | .bl i, .bl j => some (decide (i = j)) | .str i, .str j => some (decide (i = j))
  | .int _, .str _ => some false | .str _, .int _ => some false | .bl _, .str _ => some false | .str _, .bl _ => some false
  | _, _ => none
def gEqS : G2 := fun x y st ok => match x, y with
  | .dat d, .dat e => match eqSc d e with
    | some b => ok (.dat (.bl b)) st
    | none => False
  | _, _ => False
def gNeS : G2 := fun x y st ok => match x, y with
  | .dat d, .dat e => match eqSc d e with
    | some b => ok (.dat (.bl (!b))) st
    | none => False
  | _, _ => False
theorem eqSc_ok {K : PySem.W.Frag} {I : Hp} {d e : Dt} {v u : V} {b : Bool} (hv : IsD K I d v) (hu : IsD K I e u) (h : eqSc d e = some b) : scal v u = true ∧ b = decide (v = u) := by
  cases hv <;> cases hu <;> first | (cases h; done) | (cases h; exact ⟨rfl, by simp⟩)
theorem lr_eqS {K : PySem.W.Frag} : LR2 K rEq gEqS := by
  intro x y st I H ok Q v w wd ix iy h c
  cases ix with
  | own p => exact h.elim
  | @dat d _ hx =>
    cases iy with
    | own p => exact h.elim
    | @dat e _ hy =>
      cases q : eqSc d e with
      | none =>
        have h' : (match eqSc d e with | some b => ok (.dat (.bl b)) st | none => False) := h
        rw [q] at h'
        exact h'.elim
      | some b =>
        have h' : (match eqSc d e with | some b => ok (.dat (.bl b)) st | none => False) := h
        rw [q] at h'
        obtain ⟨h1, h2⟩ := eqSc_ok hx hy q
        exact ⟨h1, by rw [← h2]; exact c.now wd h' (.dat (.bl _))⟩
theorem lr_neS {K : PySem.W.Frag} : LR2 K rNe gNeS := by
  intro x y st I H ok Q v w wd ix iy h c
  cases ix with
  | own p => exact h.elim
  | @dat d _ hx =>
    cases iy with
    | own p => exact h.elim
    | @dat e _ hy =>
      cases q : eqSc d e with
      | none =>
        have h' : (match eqSc d e with | some b => ok (.dat (.bl (!b))) st | none => False) := h
        rw [q] at h'
        exact h'.elim
      | some b =>
        have h' : (match eqSc d e with | some b => ok (.dat (.bl (!b))) st | none => False) := h
        rw [q] at h'
        obtain ⟨h1, h2⟩ := eqSc_ok hx hy q
        exact ⟨h1, by rw [← h2]; exact c.now wd h' (.dat (.bl _))⟩
/-- is None, is not None -/
def dIsN (te : DE) : DE := fun Δ st ok ex => te Δ st (fun s st1 => match s with
  | .dat .non => ok (.dat (.bl true)) st1
  | .dat (.raw _) => False
  | .dat _ => ok (.dat (.bl false)) st1
  | _ => False) ex
def dNotN (te : DE) : DE := fun Δ st ok ex => te Δ st (fun s st1 => match s with
  | .dat .non => ok (.dat (.bl false)) st1
  | .dat (.raw _) => False
  | .dat _ => ok (.dat (.bl true)) st1
  | _ => False) ex
theorem low_isN {K : PySem.W.Frag} {W : WX} {te : DE} : ∀ σ H Q, low K (dIsN te) W σ H Q → tIsN (low K te W) σ H Q := by
  rintro σ H Q ⟨Δ, st, I, ok, ex, wd, sl, h, c, cx⟩
  refine low_go wd sl h (fun x st1 v I1 H1 h1 w1 s1 i1 => ?_) cx
  cases i1 with
  | own p => exact h1.elim
  | dat hd => cases hd <;> first | exact h1.elim | exact (c.go s1).now w1 h1 (.dat (.bl _))
theorem low_notN {K : PySem.W.Frag} {W : WX} {te : DE} : ∀ σ H Q, low K (dNotN te) W σ H Q → tNotN (low K te W) σ H Q := by
  rintro σ H Q ⟨Δ, st, I, ok, ex, wd, sl, h, c, cx⟩
  refine low_go wd sl h (fun x st1 v I1 H1 h1 w1 s1 i1 => ?_) cx
  cases i1 with
  | own p => exact h1.elim
  | dat hd => cases hd <;> first | exact h1.elim | exact (c.go s1).now w1 h1 (.dat (.bl _))
/-- order of texts, their length, all(bools) -/
def gLeStr : G2 := fun x y st ok => match x, y with
  | .dat (.str a), .dat (.str b) => ok (.dat (.bl (!decide (b.cps.toList < a.cps.toList)))) st
  | _, _ => False
theorem lr_leStr {K : PySem.W.Frag} : LR2 K (fun x y H Q => ∃ i j, x = .str i ∧ y = .str j ∧ Q (.bl (!decide (j.cps.toList < i.cps.toList))) H) gLeStr := by
  intro x y st I H ok Q v w wd ix iy h c
  cases ix with
  | own p => exact h.elim
  | dat hx =>
    cases hx with
    | str a =>
      cases iy with
      | own p => exact h.elim
      | dat hy =>
        cases hy with
        | str b => exact ⟨a, b, rfl, rfl, c.now wd h (.dat (.bl _))⟩
        | _ => exact h.elim
    | _ => cases iy <;> exact h.elim
def gLenS : GC := fun xs st ok => match xs with
  | [.dat (.str z)] => z.length ≤ sizeLine ∧ ok (.dat (.int z.length)) st
  | _ => False
theorem lc_lenS {K : PySem.W.Frag} : LRC (K := K) (fun xs H Q => ∃ z, xs = [.str z] ∧ z.length ≤ sizeLine ∧ Q (.int z.length) H) gLenS := by
  intro xs st I H ok Q vs wd ix h c
  unfold gLenS at h
  split at h
  · obtain ⟨v, rfl, i⟩ := one_of rfl ix
    cases i with
    | dat hd =>
      cases hd
      exact ⟨_, rfl, h.1, c.now wd h.2 (.dat (.int _))⟩
  · exact h.elim
def gAll : GC := fun xs st ok => match xs with
  | [.dat (.lst ds)] => ∃ bs : List Bool, ds = bs.map Dt.bl ∧ ok (.dat (.bl (bs.all id))) st
  | _ => False
theorem bls_of {K : PySem.W.Frag} {I : Hp} : ∀ {bs : List Bool} {vs : List V}, IsDs K I (bs.map Dt.bl) vs → vs = bs.map V.bl
  | [], _, h => by cases h; rfl
  | b :: bs, _, h => by
    cases h with
    | cons a r =>
      cases a
      rw [bls_of r]
      rfl
theorem lc_all {K : PySem.W.Frag} : LRC (K := K) (rAll K) gAll := by
  intro xs st I H ok Q vs wd ix h c
  unfold gAll at h
  split at h
  · obtain ⟨v, rfl, i⟩ := one_of rfl ix
    obtain ⟨bs, rfl, h⟩ := h
    cases i with
    | dat hd =>
      cases hd with
      | lst h1 h2 =>
        have e := bls_of h2
        subst e
        exact ⟨_, bs, rfl, wd.sub.sl (.inl (.inl h1)), c.now wd h (.dat (.bl _))⟩
  · exact h.elim
def gTupT : GC := fun xs st ok => match xs with
  | [.dat (.tup ds)] => ok (.dat (.tup ds)) st
  | [.dat (.ktu ds)] => ok (.dat (.ktu ds)) st
  | [.dat (.lst ds)] => ok (.dat (.tup ds)) st
  | [.own p] => ∃ (j : Nat) (ys : List Sv) (ds : List Dt), st[j]? = some (p, Ob.lst ys) ∧ AllD ys ds ∧ ok (.dat (.tup ds)) st
  | _ => False
theorem lc_tup {K : PySem.W.Frag} : LRC (K := K) (fun xs H Q => ∃ p ys, xs = [.ref p] ∧ ((SqL K H p ys ∧ ∀ l, H l = none → Q (.ref l) (upd H l (.tup ys))) ∨ (SqT K H p ys ∧ Q (.ref p) H))) gTupT := by
  intro xs st I H ok Q vs wd ix h c
  unfold gTupT at h
  split at h
  · obtain ⟨v, rfl, i⟩ := one_of rfl ix
    cases i with
    | dat hd =>
      cases hd with
      | tup h1 h2 => exact ⟨_, _, rfl, .inr ⟨wd.sub.st (.inl (.inl h1)), c.now wd h (.dat (.tup h1 h2))⟩⟩
  · obtain ⟨v, rfl, i⟩ := one_of rfl ix
    cases i with
    | dat hd =>
      cases hd with
      | ktu h1 h2 => exact ⟨_, _, rfl, .inr ⟨wd.sub.st h1, c.now wd h (.dat (.ktu h1 h2))⟩⟩
  · obtain ⟨v, rfl, i⟩ := one_of rfl ix
    cases i with
    | dat hd =>
      cases hd with
      | lst h1 h2 =>
        refine ⟨_, _, rfl, .inl ⟨wd.sub.sl (.inl (.inl h1)), fun l hl => ?_⟩⟩
        obtain ⟨w2, s2⟩ := new_known (o := .tup _) wd hl
        exact c _ _ _ _ _ h w2 s2 (.dat (.tup upd_same (IsDs.mono (Ex.new (wd.sub.none hl)) h2)))
  · obtain ⟨v, rfl, i⟩ := one_of rfl ix
    obtain ⟨j, ys, ds, hj, ha, h⟩ := h
    cases i with
    | own p =>
      obtain ⟨o, ho, io⟩ := own_at wd hj
      cases io with
      | lst hs =>
        refine ⟨_, _, rfl, .inl ⟨.inl (.inl ho), fun l hl => ?_⟩⟩
        obtain ⟨w2, s2⟩ := new_known (o := .tup _) wd hl
        exact c _ _ _ _ _ h w2 s2 (.dat (.tup upd_same (IsDs.mono (Ex.new (wd.sub.none hl)) (isDs_of ha hs))))
  · exact h.elim
end DD
namespace DD
open PySem PySem.Spec PyProof.Rows L2
theorem isDf_look {K : PySem.W.Frag} {I : Hp} {f : Str} : ∀ {ds : List (Str × Dt)} {vs : List (Str × V)}, IsDf K I ds vs → ∀ {d : Dt}, ds.lookup f = some d → ∃ v, vs.lookup f = some v ∧ IsD K I d v
  | _, _, .nil, d, h => by cases h
  | _, _, .cons (k := k) a r, d, h => by
    rw [List.lookup_cons] at h ⊢
    cases e : f == k with
    | true =>
      rw [e] at h
      cases h
      exact ⟨_, rfl, a⟩
    | false =>
      rw [e] at h
      exact isDf_look r h
theorem rk_look {K : PySem.W.Frag} {I : Hp} {f : Str} : ∀ {ds : List (Str × Sv)} {vs : List (Str × V)}, Paired (RK K I) ds vs → ∀ {d : Sv}, ds.lookup f = some d → ∃ v, vs.lookup f = some v ∧ IsS K I d v
  | _, _, .nil, d, h => by cases h
  | _, _, .cons (a := (k, s)) (b := (k', v)) a r, d, h => by
    obtain ⟨e1, e2⟩ := a
    have e1 : k = k' := e1
    subst e1
    rw [List.lookup_cons] at h ⊢
    cases e : f == k with
    | true =>
      rw [e] at h
      cases h
      exact ⟨_, rfl, e2⟩
    | false =>
      rw [e] at h
      exact rk_look r h
def dFld (K : PySem.W.Frag) (f : Str) (te : DE) : DE := fun Δ st ok ex => te Δ st (fun s st1 => match s with
  | .dat (.ins C fs) => Cls K C ∧ NoAttr K C f ∧ ∃ d, fs.lookup f = some d ∧ ok (.dat d) st1
  | .own p => ∃ (j : Nat) (C : Addr) (fs : List (Str × Sv)) (x : Sv), st1[j]? = some (p, Ob.ins C fs) ∧ Cls K C ∧ NoAttr K C f ∧ fs.lookup f = some x ∧ ok x st1
  | _ => False) ex
theorem low_fld {K : PySem.W.Frag} {W : WX} {f : Str} {te : DE} : ∀ σ H Q, low K (dFld K f te) W σ H Q → tFld K (low K te W) f σ H Q := by
  rintro σ H Q ⟨Δ, st, I, ok, ex, wd, sl, h, c, cx⟩
  refine low_go wd sl h (fun x st1 v I1 H1 h1 w1 s1 i1 => ?_) cx
  cases i1 with
  | own p =>
    obtain ⟨j, C, fs, x, hj, cl, na, hl, h1⟩ := h1
    obtain ⟨o, ho, io⟩ := own_at w1 hj
    cases io with
    | ins hs =>
      obtain ⟨u, hu, iu⟩ := rk_look hs hl
      exact ⟨p, C, _, _, u, rfl, ho, cl, na, hu, (c.go s1).now w1 h1 iu⟩
  | dat hd =>
    cases hd with
    | ins a b =>
      obtain ⟨cl, na, d, hl, h1⟩ := h1
      obtain ⟨u, hu, iu⟩ := isDf_look b hl
      exact ⟨_, _, _, _, u, rfl, w1.sub.at a (by intro k z; cases z) (by intro k z; cases z), cl, na, hu, (c.go s1).now w1 h1 (.dat iu)⟩
    | _ => exact h1.elim
/-- a property by its getter's promise -/
def dProp (C : Addr) (ct : Ct) (te : DE) : DE := fun Δ st ok ex => te Δ st (fun s st1 => match s with
  | .dat (.ins D fs) => D = C ∧ ct [.dat (.ins D fs)] st1 ok fun _ _ => False
  | _ => False) ex
theorem low_prop {K : PySem.W.Frag} {W : WX} {C : Addr} {ct : Ct} {te : DE} : ∀ σ H Q, low K (dProp C ct te) W σ H Q → tProp C (lowF K ct) [] E0 (low K te W) σ H Q := by
  rintro σ H Q ⟨Δ, st, I, ok, ex, wd, sl, h, c, cx⟩
  refine low_go wd sl h (fun x st1 v I1 H1 h1 w1 s1 i1 => ?_) cx
  cases i1 with
  | own p => exact h1.elim
  | dat hd =>
    cases hd with
    | ins a b =>
      obtain ⟨rfl, h1⟩ := h1
      exact ⟨_, _, _, rfl, w1.sub.at a (by intro k z; cases z) (by intro k z; cases z), _, st1, I1, ok, _, w1, .cons (.dat (.ins a b)) .nil, h1, c.go s1, fun _ _ _ _ _ _ z => z.elim⟩
    | _ => exact h1.elim
/-- o.f = e, o of one's own -/
def putS (f : Str) (v : Sv) : List (Str × Sv) → List (Str × Sv)
  | [] => [(f, v)]
  | (g, x) :: r => if g = f then (g, v) :: r else (g, x) :: putS f v r
theorem rk_put {K : PySem.W.Frag} {I : Hp} {f : Str} {s : Sv} {v : V} (h : IsS K I s v) : ∀ {fs : List (Str × Sv)} {gs : List (Str × V)}, Paired (RK K I) fs gs → Paired (RK K I) (putS f s fs) (putF f v gs)
  | _, _, .nil => .cons ⟨rfl, h⟩ .nil
  | _, _, .cons (a := (k, x)) (b := (k', y)) a r => by
    obtain ⟨e1, e2⟩ := a
    have e1 : k = k' := e1
    subst e1
    show Paired (RK K I) (if k = f then (k, s) :: _ else (k, x) :: putS f s _) (if k = f then (k, v) :: _ else (k, y) :: putF f v _)
    by_cases e : k = f
    · rw [if_pos e, if_pos e]
      exact .cons ⟨rfl, h⟩ r
    · rw [if_neg e, if_neg e]
      exact .cons ⟨rfl, e2⟩ (rk_put h r)
def dSetF (K : PySem.W.Frag) (f : Str) (tv to : DE) : DS := fun Δ st N => tv Δ st (fun v st1 => to Δ st1 (fun o st2 => match o with
  | .own p => ∃ (j : Nat) (C : Addr) (fs fs' : List (Str × Sv)), st2[j]? = some (p, Ob.ins C fs) ∧ Cls K C ∧ NoAttr K C f ∧ fs.length < 1000 ∧ putS f v fs = fs' ∧ N.nx Δ (st2.set j (p, .ins C fs'))
  | _ => False) (exAt N Δ)) (exAt N Δ)
theorem lowS_setF {K : PySem.W.Frag} {W : WX} {f : Str} {tv to : DE} : ∀ D σ H, lowS K (dSetF K f tv to) W D σ H → sFld K (low K to W) (low K tv W) f D σ H := by
  rintro D σ H ⟨Δ, st, I, N, wd, sl, h, e⟩
  refine low_go wd sl h (fun v st1 vv I1 H1 h1 w1 s1 i1 => ?_) (cx_of sl e)
  refine low_go w1 (sl.mono s1.ii) h1 (fun o st2 ov I2 H2 h2 w2 s2 i2 => ?_) (cx_of (sl.mono s1.ii) (e.go s1))
  have s12 := s1.trans s2
  cases i2 with
  | dat hd => exact h2.elim
  | own p =>
    obtain ⟨j, C, fs, fs', hj, cl, na, hl, rfl, hn⟩ := h2
    obtain ⟨u, hu, io⟩ := own_at w2 hj
    cases io with
    | @ins _ dx _ gs hs =>
      obtain ⟨w3, s3⟩ := set_own (o' := .ins C dx (putF f vv gs)) w2 hj (.ins (rk_put (i1.mono s2.ii) hs))
      exact ⟨p, C, dx, gs, rfl, hu, cl, na, by rw [← paired_len hs]; exact hl, e.nx _ _ _ _ _ hn w3 (s12.trans s3) (sl.mono s12.ii)⟩
inductive AllF : List (Str × Sv) → List (Str × Dt) → Prop
  | nil : AllF [] []
  | cons {f : Str} {d : Dt} {xs : List (Str × Sv)} {ds : List (Str × Dt)} : AllF xs ds → AllF ((f, .dat d) :: xs) ((f, d) :: ds)
theorem isDf_of {K : PySem.W.Frag} {I : Hp} : ∀ {xs : List (Str × Sv)} {ds : List (Str × Dt)} {vs : List (Str × V)}, AllF xs ds → Paired (RK K I) xs vs → IsDf K I ds vs
  | _, _, _, .nil, .nil => .nil
  | _, _, _, .cons a, .cons (b := (k, v)) r t => by
    obtain ⟨e, i⟩ := r
    have e : _ = k := e
    subst e
    cases i with
    | dat h => exact .cons h (isDf_of a t)
/-- C(..): what __init__ promises, then the instance, known from then on -/
def dMake (C : Addr) (ct : Ct) (dds : List Dt) (t : DA) : DE := fun Δ st ok ex => t Δ st (fun xs st1 => ∀ p, p ∉ keys st1 → ct (.own p :: (xs ++ dds.map Sv.dat)) ((p, .ins C []) :: st1) (fun s st2 => s = .dat .non ∧ ∃ fs ds st3, st2 = (p, .ins C fs) :: st3 ∧ AllF fs ds ∧ ok (.dat (.ins C ds)) st3) ex) ex
def tMakeAt (C : Addr) (sp : Sp) (dvs : List V) (E : L2.St → XK) (t : TA) : TE := fun σ H Q => t σ H fun vs H1 => ∀ x dx, H1 x = none → H1 dx = none → dx ≠ x →
  sp (.ref x :: (vs ++ dvs)) (upd (upd H1 dx (.own x)) x (.ins C dx [])) (fun v H2 => v = .non ∧ Q (.ref x) H2) (E σ)
section
variable {K : PySem.W.Frag} {W : WX} {st : Store} {I H : Hp}
theorem new_ins {x dx C : Addr} (w : Wd K st I H) (hx : H x = none) (hd : H dx = none) (ne : dx ≠ x) : x ∉ keys st ∧ Wd K ((x, .ins C []) :: st) I (upd (upd H dx (.own x)) x (.ins C dx [])) ∧ Stp st I H ((x, .ins C []) :: st) I (upd (upd H dx (.own x)) x (.ins C dx [])) := by
  have w1 : Wd K st I (upd H dx (.own x)) := ⟨fun a u e => by
      have z : a ≠ dx := ne_of_none e (w.sub.none hd)
      rw [upd_ne z]
      exact w.sub a u e, fun q ob hq => by
      obtain ⟨h1, u, h2, h3⟩ := w.own q ob hq
      exact ⟨h1, u, by rw [upd_ne (ne_of_none h2 hd)]; exact h2, h3⟩, w.nd⟩
  have s1 : Stp st I H st I (upd H dx (.own x)) := ⟨Ex.refl _, fun a u _ e => by rw [upd_ne (ne_of_none e hd)]; exact e, fun a e => .inl e, fun q hq => .inl hq⟩
  obtain ⟨a, b, c⟩ := new_own (o := .ins C dx []) (ob := .ins C []) w1 (by rw [upd_ne ne.symm]; exact hx) (.ins .nil)
  exact ⟨a, b, s1.trans c⟩
theorem low_make {C : Addr} {ct : Ct} {dds : List Dt} {dvs : List V} {t : DA} (hd : ∀ I, IsSs K I (dds.map Sv.dat) dvs) : ∀ σ H Q, low K (dMake C ct dds t) W σ H Q → tMakeAt C (lowF K ct) dvs (WE W) (lowA K t W) σ H Q := by
  rintro σ H Q ⟨Δ, st, I, ok, ex, wd, sl, h, c, cx⟩
  refine lowA_go wd sl h (fun xs st1 vs I1 H1 h1 w1 s1 i1 => ?_) cx
  intro x dx hx hdx ne
  obtain ⟨np, w2, s2⟩ := new_ins (C := C) w1 hx hdx ne
  refine ⟨_, _, I1, _, ex, w2, .cons (.own x) (paired_app i1 (hd I1)), h1 x np, fun s st' v I' H' h' w' s' i' => ?_, cx.go (s1.trans s2)⟩
  obtain ⟨rfl, fs, ds, st3, rfl, hf, h'⟩ := h'
  cases i' with
  | dat hn =>
    cases hn
    refine ⟨rfl, ?_⟩
    have hm : (x, Ob.ins C fs) ∈ (x, Ob.ins C fs) :: st3 := List.mem_cons_self
    obtain ⟨ip, o, hp, io⟩ := w'.own x _ hm
    have nx : x ∉ keys st3 := (List.nodup_cons.mp w'.nd).1
    cases io with
    | @ins _ dx2 _ gs hs =>
      have e1 : Ex I' (upd I' x (.ins C dx2 gs)) := Ex.new ip
      have st13 : Stp st1 I1 H1 _ I' H' := s2.trans s'
      refine (c.go s1) _ _ _ (upd I' x (.ins C dx2 gs)) _ h' ⟨fun a u e => ?_, fun q ob hq => ?_, (List.nodup_cons.mp w'.nd).2⟩ ⟨st13.ii.trans e1, st13.hh, fun a ha => ?_, fun q hq => st13.ks q (List.mem_cons_of_mem _ hq)⟩ (.dat (.ins upd_same ((isDf_of hf hs).mono e1)))
      · by_cases z : a = x
        · subst z
          rw [upd_same] at e
          cases e
          exact .inl hp
        · rw [upd_ne z] at e
          exact w'.sub a u e
      · obtain ⟨a1, u, a2, a3⟩ := w'.own q ob (List.mem_cons_of_mem _ hq)
        have z : q ≠ x := fun z => nx (z ▸ List.mem_map.mpr ⟨_, hq, rfl⟩)
        exact ⟨by rw [upd_ne z]; exact a1, u, a2, a3.mono e1⟩
      · by_cases z : a = x
        · subst z
          exact .inr (.inl hx)
        · rw [upd_ne z] at ha
          exact st13.nw a ha
end
section
variable {X : Cx} {CX : CXT} {k : Nat} {f C : Addr} {fd : FuncData} {ps : List Str} {sp : Sp} {dvs : List V} {dus : List Value} {E : L2.St → XK} {x : Str} {p pos : Pos} {e : Expr} {es : List Expr} {t : TA}
/-- C(..), what is raised being wished for at the slots -/
theorem pe_makeAt (M : Mk X.K C f) (F : FnOk X.prog X.w X.K X.mg X.base CX k f fd ps sp) (hr : Room (k + 1) X.A) (hm : X.mg x = some (.ref C)) (hb : Binds X.K fd ps dus) (hd : Vals dvs dus) (hx : ∀ σ, PassesAt CX X σ (E σ))
    (ha : PA X (e :: es) t) (hg : Gl X x := by rfl) (hdb : (x == ("__debug__" : Str)) = false := by decide) (he : starEach (e :: es) X.env = (false, eval e X.env) :: starEach es X.env := by rfl) (hpl : (backTo pos (starEach es X.env)).any (·.1) = false := by rfl) :
    PE X (.Call (.Name x p) (e :: es) [] pos) (tMakeAt C sp dvs E t) := by
  constructor
  intro pins s σ H Q I h
  apply wpAny_Call_Name_kw
  apply ld_glob I hg hm _ hdb
  apply PySem.W.callWith_K (h₀ := X.base) I.ok.mod.kin M.kp _ he hpl
  apply thn (ha.run pos pins s σ H _ I h)
  rintro us s1 ⟨vs, H1, I1, r, h1⟩
  refine ⟨I1.kIn, ?_⟩
  -- the two new objects stand behind all others
  have q := h1 (s1.heap.objs.size + 1) s1.heap.objs.size (I1.hok.fresh (Nat.le_succ _)) (I1.hok.fresh (Nat.le_refl _)) (Nat.ne_of_lt (Nat.lt_succ_self _))
  have J := Inv.made (C := C) I1
  have rr : Vals (V.ref (s1.heap.objs.size + 1) :: (vs ++ dvs)) (Value.ref (s1.heap.objs.size + 1) :: (us ++ dus)) := .cons rfl (r.append hd)
  have len : (Value.ref (s1.heap.objs.size + 1) :: us ++ dus).length = ps.length := by
    have l1 := rr.length
    have l2 := F.len _ _ _ _ q
    rw [← l2]
    exact l1.symm
  apply wpAny_call
  apply make_map (f := f) I1.kIn M.makes M.init (beq_iff_eq.mp M.fn)
  apply codeAny_mono (F.run _ X.stack _ _ ⟨Value.ref (s1.heap.objs.size + 1) :: us, []⟩ (Value.ref (s1.heap.objs.size + 1) :: (us ++ dus)) _ _ (E σ) (hr.make C us []) (J.env0.make C us []) (hb _ (Value.ref (s1.heap.objs.size + 1) :: us) J.kIn len) rr q)
  intro res s2 hres
  match res, hres with
  | .error er, z => exact hx σ pins _ _ er s2 J z
  | .ok (.ret u), z =>
    obtain ⟨v, H2, I2, rv, ev, q2⟩ := J.after z
    subst ev
    exact ⟨rv, ⟨V.ref (s1.heap.objs.size + 1), H2, I2, rfl, q2⟩⟩
  | .ok .next, z => exact False.elim z
  | .ok .brk, z => exact False.elim z
  | .ok .cont, z => exact False.elim z
end
end DD
namespace DD
open PySem PySem.Spec PyProof.Rows L2
/-- the items that come, one after the other -/
structure Wk (K : PySem.W.Frag) (st : Store) (I H : Hp) (J : It) (xs : List Sv) : Prop where
  w : ∃ (G : Hp → Prop) (Y : Nat → Hp → V → Hp → Prop), Walk J xs.length G Y ∧ (∀ st2 I2 H2, Wd K st2 I2 H2 → Stp st I H st2 I2 H2 → G H2) ∧
    ∀ (i : Nat) H2 x H3 st2 I2, i < xs.length → Wd K st2 I2 H2 → Stp st I H st2 I2 H2 → Y i H2 x H3 → ∃ s I3, xs[i]? = some s ∧ Wd K st2 I3 H3 ∧ Stp st2 I2 H2 st2 I3 H3 ∧ IsS K I3 s x
abbrev DI := List Sv → Store → (List Sv → Store → Prop) → EK → Prop
def lowI (K : PySem.W.Frag) (it : DI) (W : WX) : TI := fun σ H R => ∃ Δ st I ok ex, Wd K st I H ∧ Sl K Δ I σ ∧ it Δ st ok ex ∧
  (∀ xs st' I' H' J, ok xs st' → Wd K st' I' H' → Stp st I H st' I' H' → Wk K st' I' H' J xs → R J H') ∧ ContX K st I H ex fun cls d H' => W cls d σ H'
theorem PI.imp {X : Cx} {tg e : Expr} {t t' : TI} (h : PI X tg e t) (i : ∀ σ H R, t' σ H R → t σ H R) : PI X tg e t' := ⟨fun pins s σ H R J q => h.run pins s σ H R J (i σ H R q)⟩
section
variable {K : PySem.W.Frag} {W : WX} {st : Store} {I H : Hp}
theorem wk_at {J : It} {xs : List Sv} {vs : List V} (hp : IsSs K I xs vs) {G : Hp → Prop} (w : Walk J vs.length G (YAt vs)) (hg : ∀ st2 I2 H2, Wd K st2 I2 H2 → Stp st I H st2 I2 H2 → G H2) : Wk K st I H J xs := by
  refine ⟨G, YAt vs, by rw [paired_len hp]; exact w, hg, fun i H2 x H3 st2 I2 hi w2 s2 y => ?_⟩
  obtain ⟨e, y⟩ := y
  subst e
  obtain ⟨s, h1, h2⟩ := paired_back hp y
  exact ⟨s, I2, h1, w2, Stp.refl _ _ _, h2.mono s2.ii⟩
/-- a known list, a list of one's own (not changed in the loop: its items as they are at the start) -/
def dItL (te : DE) : DI := fun Δ st ok ex => te Δ st (fun x st1 => match x with
  | .dat (.lst ds) => ok (ds.map .dat) st1
  | .dat (.fls ds) => ok (ds.map .dat) st1
  | _ => False) ex
def dItT (te : DE) : DI := fun Δ st ok ex => te Δ st (fun x st1 => match x with
  | .dat (.tup ds) => ok (ds.map .dat) st1
  | .dat (.ktu ds) => ok (ds.map .dat) st1
  | _ => False) ex
theorem low_itL {te : DE} : ∀ σ H R, lowI K (dItL te) W σ H R → iList K (low K te W) σ H R := by
  rintro σ H R ⟨Δ, st, I, ok, ex, wd, sl, h, c, cx⟩
  refine low_go wd sl h (fun x st1 v I1 H1 h1 w1 s1 i1 => ?_) cx
  cases i1 with
  | own p => exact h1.elim
  | dat hd =>
    cases hd with
    | lst a b => exact ⟨_, rfl, ⟨_, w1.sub.sl (.inl (.inl a))⟩, c _ _ _ _ _ h1 w1 s1 (wk_at (isSs_of b) walk_list fun st2 I2 H2 w2 s2 => w2.sub.sl (.inl (.inl (s2.ii _ _ a))))⟩
    | fls a b => exact ⟨_, rfl, ⟨_, w1.sub.sl a⟩, c _ _ _ _ _ h1 w1 s1 (wk_at (isSs_of b) walk_list fun st2 I2 H2 w2 s2 => w2.sub.sl (s2.ii.sl a))⟩
    | _ => exact h1.elim
theorem low_itT {te : DE} : ∀ σ H R, lowI K (dItT te) W σ H R → iTup K (low K te W) σ H R := by
  rintro σ H R ⟨Δ, st, I, ok, ex, wd, sl, h, c, cx⟩
  refine low_go wd sl h (fun x st1 v I1 H1 h1 w1 s1 i1 => ?_) cx
  cases i1 with
  | own p => exact h1.elim
  | dat hd =>
    cases hd with
    | tup a b => exact ⟨_, rfl, ⟨_, w1.sub.st (.inl (.inl a))⟩, c _ _ _ _ _ h1 w1 s1 (wk_at (isSs_of b) walk_tup fun st2 I2 H2 w2 s2 => w2.sub.st (.inl (.inl (s2.ii _ _ a))))⟩
    | ktu a b => exact ⟨_, rfl, ⟨_, w1.sub.st a⟩, c _ _ _ _ _ h1 w1 s1 (wk_at (isSs_of b) walk_tup fun st2 I2 H2 w2 s2 => w2.sub.st (s2.ii.st a))⟩
    | _ => exact h1.elim
/-- range(n), range(a, b) -/
def rngS (lo : Int) (n : Nat) : List Sv := (List.range n).map fun (i : Nat) => .dat (.int (lo + (i : Int)))
def dItR (ta : DA) : DI := fun Δ st ok ex => ta Δ st (fun xs st1 => match xs with
  | [.dat (.int n)] => -(2 ^ 62) ≤ n ∧ n < 2 ^ 62 ∧ ok (rngS 0 n.toNat) st1
  | _ => False) ex
def dItR2 (ta : DA) : DI := fun Δ st ok ex => ta Δ st (fun xs st1 => match xs with
  | [.dat (.int m), .dat (.int n)] => (-(2 ^ 62) ≤ m ∧ m < 2 ^ 62 ∧ -(2 ^ 62) ≤ n ∧ n < 2 ^ 62) ∧ ok (rngS m (n - m).toNat) st1
  | _ => False) ex
theorem wk_range {lo : Int} {n : Nat} : Wk K st I H (Itr lo n) (rngS lo n) := by
  refine ⟨fun _ => True, YFn fun i => .int (lo + i), by simpa [rngS] using walk_range, fun _ _ _ _ _ => trivial, fun i H2 x H3 st2 I2 hi w2 s2 y => ?_⟩
  obtain ⟨e, y⟩ := y
  subst e y
  have hi' : i < n := by simpa [rngS] using hi
  exact ⟨.dat (.int (lo + (i : Int))), I2, by simp [rngS, hi'], w2, Stp.refl _ _ _, .dat (.int _)⟩
theorem low_itR {ta : DA} : ∀ σ H R, lowI K (dItR ta) W σ H R → iRng1 (lowA K ta W) σ H R := by
  rintro σ H R ⟨Δ, st, I, ok, ex, wd, sl, h, c, cx⟩
  refine lowA_go wd sl h (fun xs st1 vs I1 H1 h1 w1 s1 i1 => ?_) cx
  split at h1
  · obtain ⟨v, rfl, iv⟩ := one_of rfl i1
    cases iv with
    | dat hd =>
      cases hd
      exact ⟨_, rfl, h1.1, h1.2.1, c _ _ _ _ _ h1.2.2 w1 s1 wk_range⟩
  · exact h1.elim
theorem low_itR2 {ta : DA} : ∀ σ H R, lowI K (dItR2 ta) W σ H R → iRng2 (lowA K ta W) σ H R := by
  rintro σ H R ⟨Δ, st, I, ok, ex, wd, sl, h, c, cx⟩
  refine lowA_go wd sl h (fun xs st1 vs I1 H1 h1 w1 s1 i1 => ?_) cx
  split at h1
  · exact ⟨_, _, two_int rfl i1, h1.1, c _ _ _ _ _ h1.2 w1 s1 wk_range⟩
  · exact h1.elim
/-- a text, sign by sign -/
def sgnS (z : Str) : List Sv := z.cps.toList.map fun c => .dat (.str ⟨#[c]⟩)
def dItS (te : DE) : DI := fun Δ st ok ex => te Δ st (fun x st1 => match x with
  | .dat (.str z) => ok (sgnS z) st1
  | _ => False) ex
theorem low_itS {te : DE} : ∀ σ H R, lowI K (dItS te) W σ H R → iStr (low K te W) σ H R := by
  rintro σ H R ⟨Δ, st, I, ok, ex, wd, sl, h, c, cx⟩
  refine low_go wd sl h (fun x st1 v I1 H1 h1 w1 s1 i1 => ?_) cx
  cases i1 with
  | own p => exact h1.elim
  | dat hd =>
    cases hd with
    | str z =>
      refine ⟨z, rfl, c _ _ _ _ _ h1 w1 s1 ⟨fun _ => True, _, by simpa [sgnS] using walk_str, fun _ _ _ _ _ => trivial, fun i H2 x H3 st2 I2 hi w2 s2 y => ?_⟩⟩
      obtain ⟨e, c, hc, y⟩ := y
      subst e y
      exact ⟨.dat (.str ⟨#[c]⟩), I2, by rw [sgnS, List.getElem?_map, Array.getElem?_toList, hc]; rfl, w2, Stp.refl _ _ _, .dat (.str _)⟩
    | _ => exact h1.elim
def dFor (it : DI) (g : DG) (body : DS) : DS := fun Δ st N => it Δ st (fun xs st1 => loopD xs g body Δ st1 N) (exAt N Δ)
theorem for_go {g : DG} {body : DS} {Δ : List Sv} {N : DN} {D : Ends} {σ : L2.St} {J : It} {xs : List Sv} (e : Ends_ K st I H N W D) (w1 : Wd K st I H) (sl : Sl K Δ I σ) (h1 : loopD xs g body Δ st N) (k1 : Wk K st I H J xs) :
    ∃ W' : Nat → Nat → L2.St → Hp → Prop, (∃ m, W' 0 m σ H) ∧ ∀ i m σ H, W' i m σ H →
      (J.stop i H ∧ D.nx σ H) ∨ (J.go i H ∧ ∃ N : L2.St → Hp → Prop, (∀ σ' H', N σ' H' → ∃ m', m' < m ∧ W' (i + 1) m' σ' H') ∧ ∀ x H', J.yld i H x H' → lowG K g x σ H' fun σ2 H2 => lowS K body W { D with nx := N, ct := N, bk := D.nx } σ2 H2) := by
  rw [loopD_eq] at h1
  obtain ⟨Jv, j0, jt, je⟩ := h1
  obtain ⟨G, Y, wk, hg, hy⟩ := k1.w
  refine for_it wk (fun i σ' H' => ∃ Δ' st' I', Jv i Δ' st' ∧ Wd K st' I' H' ∧ Sl K Δ' I' σ' ∧ Stp st I H st' I' H') ⟨Δ, st, I, j0, w1, sl, Stp.refl _ _ _⟩ (fun i σ' H' _ ⟨_, st', I', _, w', _, s'⟩ => hg st' I' H' w' s') ?_ ?_
  · rintro i x σ' H' H3 hi ⟨Δ', st', I', hj, w', l', s'⟩ y
    obtain ⟨d, I3, hd, w3, s3, ix⟩ := hy i H' x H3 st' I' hi w' s' y
    exact loop_turn e w3 (l'.mono s3.ii) (s'.trans s3) ix (jt i d Δ' st' hd hj)
  · rintro σ' H' ⟨Δ', st', I', hj, w', l', s'⟩
    exact e.nx _ _ _ _ _ (je _ _ hj) w' s' l'
theorem lowS_for {it : DI} {g : DG} {body : DS} : ∀ D σ H, lowS K (dFor it g body) W D σ H → tFor (lowI K it W) (lowG K g) (lowS K body W) D σ H := by
  rintro D σ H ⟨Δ, st, I, N, wd, sl, h, e⟩
  exact ⟨Δ, st, I, _, _, wd, sl, h, fun xs st1 I1 H1 J h1 w1 s1 k1 => for_go (e.go s1) w1 (sl.mono s1.ii) h1 k1, cx_of sl e⟩
def wipeD (Δ : List Sv) : List Nat → List Sv
  | [] => Δ
  | v :: vs => (wipeD Δ vs).set v .un
theorem sl_un {Δ : List Sv} {σ : L2.St} (h : Sl K Δ I σ) (i : Nat) : Sl K (Δ.set i .un) I (σ.set i none) := by
  refine ⟨by rw [List.length_set, List.length_set]; exact h.1, fun j t ht => ?_⟩
  by_cases e : i = j
  · subst e
    have hl : i < Δ.length := by
      have := (List.getElem?_eq_some_iff.mp ht).1
      rwa [List.length_set] at this
    rw [List.getElem?_set_self hl] at ht
    cases ht
    exact .inl rfl
  · rw [List.getElem?_set_ne e] at ht
    rw [List.getElem?_set_ne e]
    exact h.2 j t ht
theorem sl_wipe {Δ : List Sv} {σ : L2.St} (h : Sl K Δ I σ) : ∀ vs, Sl K (wipeD Δ vs) I (wipe σ vs)
  | [] => h
  | v :: vs => sl_un (sl_wipe h vs) v
theorem wipe_set {σ : L2.St} {i : Nat} {x : Option V} : ∀ {vs : List Nat}, i ∈ vs → wipe (σ.set i x) vs = wipe σ vs
  | v :: vs, h => by
    unfold wipe
    by_cases e : i = v
    · subst e
      by_cases h2 : i ∈ vs
      · rw [wipe_set h2]
      · have : ∀ {vs : List Nat}, i ∉ vs → wipe (σ.set i x) vs = (wipe σ vs).set i x := by
          intro vs
          induction vs with
          | nil => intro _; rfl
          | cons w ws ih =>
            intro hn
            show (wipe (σ.set i x) ws).set w none = ((wipe σ ws).set w none).set i x
            have hwi : w ≠ i := fun z => hn (by rw [z]; exact List.mem_cons_self)
            rw [ih (fun z => hn (List.mem_cons_of_mem _ z)), List.set_comm _ _ hwi.symm]
        rw [this h2, List.set_set]
    · rw [wipe_set ((List.mem_cons.mp h).resolve_left e)]
theorem wipe_wipe {σ : L2.St} : ∀ vs : List Nat, wipe (wipe σ vs) vs = wipe σ vs := by
  intro vs
  have : ∀ ws : List Nat, (∀ w ∈ ws, w ∈ vs) → wipe (wipe σ ws) vs = wipe σ vs := by
    intro ws
    induction ws with
    | nil => intro _; rfl
    | cons w ws ih =>
      intro hw
      show wipe ((wipe σ ws).set w none) vs = _
      rw [wipe_set (hw w List.mem_cons_self), ih fun z hz => hw z (List.mem_cons_of_mem _ hz)]
  exact this vs fun _ h => h
/-- targets that keep to the slots vs -/
def lowGw (K : PySem.W.Frag) (vs : List Nat) (g : DG) : TG := fun v σ H Q => ∃ s Δ st I k, Wd K st I H ∧ Sl K Δ I σ ∧ IsS K I s v ∧ g s Δ st k ∧ ContS K st I H k fun σ' H' => wipe σ' vs = wipe σ vs → Q σ' H'
def lowGsw (K : PySem.W.Frag) (vs : List Nat) (g : DGs) : TGs := fun ss σ H Q => ∃ xs Δ st I k, Wd K st I H ∧ Sl K Δ I σ ∧ IsSs K I xs ss ∧ g xs Δ st k ∧ ContS K st I H k fun σ' H' => wipe σ' vs = wipe σ vs → Q σ' H'
theorem lowGw_name {vs : List Nat} {i : Nat} (hi : i ∈ vs) : ∀ v σ H Q, lowGw K vs (dgName i) v σ H Q → gName i v σ H Q := by
  rintro v σ H Q ⟨s, Δ, st, I, k, wd, sl, iv, h, c⟩
  exact c _ _ _ _ _ h wd (Stp.refl _ _ _) (sl.set iv) (wipe_set hi)
theorem lowGsw_nil {vs : List Nat} : ∀ v σ H Q, lowGsw K vs dgNil v σ H Q → gNil v σ H Q := by
  rintro v σ H Q ⟨s, Δ, st, I, k, wd, sl, iv, h, c⟩
  cases iv with
  | nil => exact ⟨rfl, c _ _ _ _ _ h wd (Stp.refl _ _ _) sl rfl⟩
  | cons a b => exact h.elim
theorem lowGsw_cons {vs : List Nat} {g : DG} {u : DGs} : ∀ v σ H Q, lowGsw K vs (dgCons g u) v σ H Q → gCons (lowGw K vs g) (lowGsw K vs u) v σ H Q := by
  rintro v σ H Q ⟨s, Δ, st, I, k, wd, sl, iv, h, c⟩
  cases iv with
  | nil => exact h.elim
  | cons a b =>
    refine ⟨_, _, rfl, _, Δ, st, I, _, wd, sl, a, h, fun Δ1 st1 σ1 I1 H1 h1 w1 s1 l1 e1 => ?_⟩
    exact ⟨_, Δ1, st1, I1, k, w1, l1, paired_mono (fun _ _ => IsS.mono s1.ii) b, h1, fun Δ2 st2 σ2 I2 H2 h2 w2 s2 l2 e2 => c _ _ _ _ _ h2 w2 (s1.trans s2) l2 (e2.trans e1)⟩
theorem lowGw_tup {vs : List Nat} {n : Nat} {u : DGs} : ∀ v σ H Q, lowGw K vs (dgTup n u) v σ H Q → gTup K n (lowGsw K vs u) v σ H Q := by
  rintro v σ H Q ⟨s, Δ, st, I, k, wd, sl, iv, h, c⟩
  obtain ⟨a, ws, xs, rfl, ht, hx, hl, h⟩ := withT_rd wd iv h
  exact ⟨a, ws, rfl, ht, by rw [← paired_len hx]; exact hl, xs, Δ, st, I, k, wd, sl, hx, h, c⟩
abbrev W0 : WX := fun _ _ _ _ => False
def dYes : DT := fun _ st ok _ => ok true st
/-- [elt for g in it if tt]: J by the turn, what is made so far, the store without the new list (at D) -/
@[irreducible] def lcD (g : DG) (tt : DT) (te : DE) (vs : List Nat) (xs : List Sv) (Δ : List Sv) (st1 : Store) (ok : OK) : Prop := ∀ D, D ∉ keys st1 → ∃ J : Nat → List Sv → Store → Prop, J 0 [] st1 ∧
  (∀ i d acc st', xs[i]? = some d → J i acc st' → D ∉ keys st' → g d (wipeD Δ vs) ((D, .lst acc) :: st') fun Δ2 st2 => tt Δ2 st2 (fun b st3 =>
    (b = true → te Δ2 st3 (fun y st4 => ∃ acc' st5, st4 = (D, .lst acc') :: st5 ∧ acc'.length < sizeLine ∧ J (i + 1) (acc' ++ [y]) st5) fun _ _ => False) ∧ (b = false → ∃ acc' st5, st3 = (D, .lst acc') :: st5 ∧ J (i + 1) acc' st5)) fun _ _ => False) ∧
  ∀ acc st', J xs.length acc st' → ∃ ds, AllD acc ds ∧ ok (.dat (.lst ds)) st'
theorem lcD_eq (g : DG) (tt : DT) (te : DE) (vs : List Nat) (xs : List Sv) (Δ : List Sv) (st1 : Store) (ok : OK) : lcD g tt te vs xs Δ st1 ok = (∀ D, D ∉ keys st1 → ∃ J : Nat → List Sv → Store → Prop, J 0 [] st1 ∧
  (∀ i d acc st', xs[i]? = some d → J i acc st' → D ∉ keys st' → g d (wipeD Δ vs) ((D, .lst acc) :: st') fun Δ2 st2 => tt Δ2 st2 (fun b st3 =>
    (b = true → te Δ2 st3 (fun y st4 => ∃ acc' st5, st4 = (D, .lst acc') :: st5 ∧ acc'.length < sizeLine ∧ J (i + 1) (acc' ++ [y]) st5) fun _ _ => False) ∧ (b = false → ∃ acc' st5, st3 = (D, .lst acc') :: st5 ∧ J (i + 1) acc' st5)) fun _ _ => False) ∧
  ∀ acc st', J xs.length acc st' → ∃ ds, AllD acc ds ∧ ok (.dat (.lst ds)) st') := by
  unfold lcD
  rfl
def dLc (it : DI) (g : DG) (tt : DT) (te : DE) (vs : List Nat) : DE := fun Δ st ok ex => it Δ st (fun xs st1 => lcD g tt te vs xs Δ st1 ok) ex
theorem pub_head {p : Addr} {ob : Ob} {o : HO} {st0 : Store} {I0 H0 : Hp} (w : Wd K ((p, ob) :: st) I H) (hp : H p = some o) (sp : Stp st0 I0 H0 ((p, ob) :: st) I H) : Wd K st (upd I p o) H ∧ Stp st0 I0 H0 st (upd I p o) H ∧ Ex I (upd I p o) := by
  obtain ⟨ip, _⟩ := w.own p ob List.mem_cons_self
  have np : p ∉ keys st := (List.nodup_cons.mp w.nd).1
  have e1 : Ex I (upd I p o) := Ex.new ip
  refine ⟨⟨fun a u e => ?_, fun q ob2 hq => ?_, (List.nodup_cons.mp w.nd).2⟩, ⟨sp.ii.trans e1, sp.hh, fun a ha => ?_, fun q hq => sp.ks q (List.mem_cons_of_mem _ hq)⟩, e1⟩
  · by_cases z : a = p
    · subst z
      rw [upd_same] at e
      cases e
      exact .inl hp
    · rw [upd_ne z] at e
      exact w.sub a u e
  · obtain ⟨a1, u, a2, a3⟩ := w.own q ob2 (List.mem_cons_of_mem _ hq)
    have z : q ≠ p := fun z => np (z ▸ List.mem_map.mpr ⟨_, hq, rfl⟩)
    exact ⟨by rw [upd_ne z]; exact a1, u, a2, a3.mono e1⟩
  · by_cases z : a = p
    · subst z
      rcases sp.ks a List.mem_cons_self with q | q
      · exact .inr (.inr (.inl q))
      · exact .inr (.inl q)
    · rw [upd_ne z] at ha
      exact sp.nw a ha
theorem lc_go {g : DG} {tt : DT} {te : DE} {vs : List Nat} {Δ : List Sv} {ok : OK} {σ : L2.St} {Q : VK} {J : It} {xs : List Sv} (w1 : Wd K st I H) (sl : Sl K Δ I σ) (h1 : lcD g tt te vs xs Δ st ok) (k1 : Wk K st I H J xs) (c : Cont K st I H ok Q) :
    ∀ D, H D = none → ∃ W : Nat → Nat → Hp → Prop, (∃ m, W 0 m (upd H D (.lst []))) ∧ ∀ i m H, W i m H →
  (J.stop i H ∧ Q (.ref D) H) ∨ (J.go i H ∧ ∃ Nx : Hp → Prop, (∀ H', Nx H' → ∃ m', m' < m ∧ W (i + 1) m' H') ∧ ∀ x H', J.yld i H x H' → lowGw K vs g x (wipe σ vs) H' fun σ2 H2 => wipe σ2 vs = wipe σ vs ∧ lowT K tt W0 σ2 H2 fun b H3 =>
    if b = true then low K te W0 σ2 H3 fun y H4 => ∃ acc, H4 D = some (.lst acc) ∧ acc.length < sizeLine ∧ Nx (upd H4 D (.lst (acc ++ [y]))) else Nx H3) := by
  intro D hD
  obtain ⟨np, w2, s2⟩ := new_own (o := .lst []) (ob := .lst []) w1 hD (.lst .nil)
  rw [lcD_eq] at h1
  obtain ⟨Jv, j0, jt, je⟩ := h1 D np
  obtain ⟨G, Y, wk, hg, hy⟩ := k1.w
  refine lc_it wk (fun i H' => ∃ acc st' I', Jv i acc st' ∧ Wd K ((D, .lst acc) :: st') I' H' ∧ Stp st I H ((D, .lst acc) :: st') I' H') ⟨[], st, I, j0, w2, s2⟩ (fun i H' _ ⟨_, _, I', _, w', s'⟩ => hg _ I' H' w' s') ?_ ?_
  · rintro i x H' H3 hi ⟨acc, st', I', hj, w', s'⟩ y
    obtain ⟨d, I3, hd, w3, s3, ix⟩ := hy i H' x H3 _ I' hi w' s' y
    have s13 := s'.trans s3
    have nd : D ∉ keys st' := (List.nodup_cons.mp w'.nd).1
    refine ⟨d, _, _, I3, _, w3, sl_wipe (sl.mono s13.ii) vs, ix, jt i d acc st' hd hj nd, fun Δ4 st4 σ4 I4 H4 h4 w4 s4 l4 e4 => ?_⟩
    have s14 := s13.trans s4
    refine ⟨by rw [e4, wipe_wipe], ?_⟩
    refine lowT_go w4 l4 h4 (fun b st5 I5 H5 h5 w5 s5 => ?_) (fun _ _ _ _ _ _ z => z.elim)
    have s15 := s14.trans s5
    cases b with
    | true =>
      refine iteT (low_go w5 (l4.mono s5.ii) (h5.1 rfl) (fun z st6 u I6 H6 h6 w6 s6 i6 => ?_) (fun _ _ _ _ _ _ z => z.elim))
      obtain ⟨acc', st7, rfl, hl, hj'⟩ := h6
      obtain ⟨_, o, ho, io⟩ := w6.own D _ List.mem_cons_self
      cases io with
      | @lst _ ws hs =>
        obtain ⟨w7, s7⟩ := set_own (j := 0) (o' := .lst (ws ++ [u])) (ob' := .lst (acc' ++ [z])) w6 rfl (.lst (paired_app hs (.cons i6 .nil)))
        exact ⟨ws, ho, by rw [← paired_len hs]; exact hl, acc' ++ [z], st7, I6, hj', w7, (s15.trans s6).trans s7⟩
    | false =>
      refine iteF ?_
      obtain ⟨acc', st7, rfl, hj'⟩ := h5.2 rfl
      exact ⟨acc', st7, I5, hj', w5, s15⟩
  · rintro H' ⟨acc, st', I', hj, w', s'⟩
    obtain ⟨ds, ha, hok⟩ := je _ _ hj
    obtain ⟨_, o, ho, io⟩ := w'.own D _ List.mem_cons_self
    cases io with
    | lst hs =>
      obtain ⟨w9, s9, e9⟩ := pub_head w' ho s'
      exact c _ _ _ _ _ hok w9 s9 (.dat (.lst upd_same ((isDs_of ha hs).mono e9)))
theorem low_lc {it : DI} {g : DG} {tt : DT} {te : DE} {vs : List Nat} : ∀ σ H Q, low K (dLc it g tt te vs) W σ H Q → tLc (lowI K it W) (lowGw K vs g) (lowT K tt W0) (low K te W0) vs σ H Q := by
  rintro σ H Q ⟨Δ, st, I, ok, ex, wd, sl, h, c, cx⟩
  exact ⟨Δ, st, I, _, _, wd, sl, h, fun xs st1 I1 H1 J h1 w1 s1 k1 => lc_go w1 (sl.mono s1.ii) h1 k1 (c.go s1), cx⟩
end
end DD
namespace DD
open PySem PySem.Spec PyProof.Rows L2
structure KdB (x : Str) (k : Kd) : Prop where
  v : bootBuiltins x = some (.type k.nm)
theorem kb_int : KdB "int" .int := ⟨PyProof.Rows.boot_int⟩
theorem kb_bool : KdB "bool" .bl := ⟨PyProof.Rows.boot_bool⟩
theorem kb_str : KdB "str" .str := ⟨PyProof.Rows.boot_str⟩
theorem kb_list : KdB "list" .lst := ⟨PyProof.Rows.boot_list⟩
theorem kb_tuple : KdB "tuple" .tup := ⟨PyProof.Rows.boot_tuple⟩
theorem kb_dict : KdB "dict" .dic := ⟨PyProof.Rows.boot_dict⟩
section
variable {X : Cx} {W : WX} {a b c e o : Expr} {es : List Expr} {ta tb tc te : DE} {pos p p2 apos : Pos} {s : Stmt} {ss : List Stmt} {t u : DS}
/-- isinstance(e, T) -/
theorem disi (K : PySem.W.Frag) {k : Kd} {x : Str} (hm : X.mg "isinstance" = none) (hx : X.mg x = none) (hv : KdB x k) (he : PEd X W e te) (hg : Gl X "isinstance" := by rfl) (hgx : Gl X x := by rfl) (hn : x ≠ "__name__" := by decide) (hd : (x == ("__debug__" : Str)) = false := by decide)
    (h1 : starEach [e, .Name x p2] X.env = (false, eval e X.env) :: starEach [.Name x p2] X.env := by rfl) (hpl : (backTo pos (starEach [.Name x p2] X.env)).any (·.1) = false := by rfl) (hK : X.K = K := by rfl) : PEd X W (.Call (.Name "isinstance" p) [e, .Name x p2] [] pos) (dIsi K k te) := by
  subst hK
  exact PE.imp (pe_callB call_isi hg hm PyProof.Rows.boot_isinstance (pa_cons he (pa_cons (pe_bltn (v := .ty k.nm) hgx hx hv.v rfl hn hd) pa_nil) h1) (he := h1) (hpl := hpl)) low_isi
theorem dand {rest : List Expr} (ha : PEd X W a ta) (hb : PEd X W (.BoolOp .And (b :: rest) pos) tb) : PEd X W (.BoolOp .And (a :: b :: rest) pos) (dAnd ta tb) := PE.imp (pe_and ha hb) low_and
theorem done {op} (h : PEd X W a ta) : PEd X W (.BoolOp op [a] pos) ta := pe_one h
theorem dnot (h : PEd X W a ta) : PEd X W (.UnaryOp .Not a pos) (dNot ta) := PE.imp (pe_not h) low_not
theorem difx {tt : DT} (hc : PTd X W c tt) (ha : PEd X W a ta) (hb : PEd X W b tb) : PEd X W (.IfExp c a b pos) (dIf tt ta tb) := PE.imp (pe_ifExp hc ha hb) low_if
/-- tests -/
theorem tval (h : PEd X W e te) (he : ∀ whole, isTrue e X.env whole = (do let v ← whole; standAt e.pos; holding [v] (truthy v)) := by intro _; rfl) : PTd X W e (dTest te) := PT.imp (pt_val h he) lowT_B
theorem tisN {j pos'} (h : PEd X W a ta) : PTd X W (.Compare a [.Is] [.Constant .none j pos'] pos) (dTest (dIsN ta)) := PT.imp (pt_cmp (pc_isN h)) fun σ H Q h => by
  obtain ⟨Δ, st, I, ok, ex, wd, sl, h, c, cx⟩ := h
  refine low_isN _ _ _ ⟨Δ, st, I, _, ex, wd, sl, h, fun s st' v I' H' h' w' s' i' => ?_, cx⟩
  cases i' with
  | own p => exact h'.elim
  | dat hd =>
    cases hd with
    | bl k => exact ⟨k, rfl, c _ _ _ _ h' w' s'⟩
    | _ => exact h'.elim
theorem tnotN {j pos'} (h : PEd X W a ta) : PTd X W (.Compare a [.IsNot] [.Constant .none j pos'] pos) (dTest (dNotN ta)) := PT.imp (pt_cmp (pc_notN h)) fun σ H Q h => by
  obtain ⟨Δ, st, I, ok, ex, wd, sl, h, c, cx⟩ := h
  refine low_notN _ _ _ ⟨Δ, st, I, _, ex, wd, sl, h, fun s st' v I' H' h' w' s' i' => ?_, cx⟩
  cases i' with
  | own p => exact h'.elim
  | dat hd =>
    cases hd with
    | bl k => exact ⟨k, rfl, c _ _ _ _ h' w' s'⟩
    | _ => exact h'.elim
theorem tnot {tt : DT} (h : PTd X W a tt) : PTd X W (.UnaryOp .Not a pos) (dNotT tt) := PT.imp (pt_not h) lowT_not
abbrev PWd (X : Cx) (W : WX) (e : Expr) (t : DT) : Prop := PW X e (lowT X.K t W)
theorem wand1 {tt : DT} (h : PTd X W a tt) : PWd X W (.BoolOp .And [a] pos) tt := pw_and1 h
theorem wor1 {tt : DT} (h : PTd X W a tt) : PWd X W (.BoolOp .Or [a] pos) tt := pw_or1 h
theorem wand {tt uu : DT} {rest : List Expr} (h : PTd X W a tt) (h2 : PWd X W (.BoolOp .And (b :: rest) pos) uu) : PWd X W (.BoolOp .And (a :: b :: rest) pos) (dAndT tt uu) := ⟨fun wh pins s σ H Q J q => (pw_and h h2).run wh pins s σ H Q J (lowT_and _ _ _ q)⟩
theorem wor {tt uu : DT} {rest : List Expr} (h : PTd X W a tt) (h2 : PWd X W (.BoolOp .Or (b :: rest) pos) uu) : PWd X W (.BoolOp .Or (a :: b :: rest) pos) (dOrT tt uu) := ⟨fun wh pins s σ H Q J q => (pw_or h h2).run wh pins s σ H Q J (lowT_or _ _ _ q)⟩
theorem tw {tt : DT} (h : PWd X W a tt) : PTd X W a tt := h.pt
theorem tchain {op op' : CmpOp} {r r' : R2} {g g' : G2} (ho : OpR X (compareOp op) r) (ho' : OpR X (compareOp op') r') (hr : LR2 X.K r g) (hr' : LR2 X.K r' g') (ha : PEd X W a ta) (hb : PEd X W b tb) (hc : PEd X W c tc)
    (hm : lastMarks [op, op'] [b, c] = false := by with_unfolding_all rfl) : PTd X W (.Compare a [op, op'] [b, c] pos) (dTest (dChain g g' ta tb tc)) := PT.imp (pt_chain ho ho' ha hb hc hm) fun σ H Q h => by
  obtain ⟨Δ, st, I, ok, ex, wd, sl, h, c, cx⟩ := h
  refine low_chain hr hr' _ _ _ ⟨Δ, st, I, _, ex, wd, sl, h, fun s st' v I' H' h' w' s' i' => ?_, cx⟩
  cases i' with
  | own p => exact h'.elim
  | dat hd =>
    cases hd with
    | bl k => exact ⟨k, rfl, c _ _ _ _ h' w' s'⟩
    | _ => exact h'.elim
/-- fields, properties, instances -/
theorem dfld (K : PySem.W.Frag) {f : Str} (he : PEd X W e te) (hb : attributeBase e f X.env (eval e X.env) = eval e X.env := by rfl) (hK : X.K = K := by rfl) : PEd X W (.Attribute e f pos) (dFld K f te) := by
  subst hK
  exact PE.imp (pe_fld he hb) low_fld
theorem dprop {f : Str} {C q g : Addr} {k : Nat} {fd : FuncData} {ps : List Str} {ct : Ct} (c : Cls X.K C) (hp : PropOf X.K C f q g) (F : FnOk X.prog X.w X.K X.mg X.base (L2.CX X.prog X.w) k g fd ps (lowF X.K ct)) (hr : Room (k + 1) X.A) (hb : Binds X.K fd ps [])
    (he : PEd X W e te) (hab : attributeBase e f X.env (eval e X.env) = eval e X.env := by rfl) : PEd X W (.Attribute e f pos) (dProp C ct te) := PE.imp (pe_prop he c hp F hr hb .nil passL hab) low_prop
theorem ssetF (K : PySem.W.Frag) {f : Str} {p' : Pos} {tv to : DE} (hv : PEd X W e tv) (ho : PEd X W o to) (hs : swapsWith e (some (.Attribute o f p')) pos.line X.env = pure false := by rfl) (hK : X.K = K := by rfl) : PSd X W (.Assign [.Attribute o f p'] e pos) (dSetF K f tv to) := by
  subst hK
  exact PS.imp (ps_fld ho hv hs) lowS_setF
theorem dmake {ct : Ct} {k : Nat} {f C : Addr} {fd : FuncData} {ps : List Str} {x : Str} {dds : List Dt} {dvs : List V} {dus : List Value} {t : DA} (M : Mk X.K C f) (F : FnOk X.prog X.w X.K X.mg X.base (L2.CX X.prog X.w) k f fd ps (lowF X.K ct)) (hr : Room (k + 1) X.A) (hm : X.mg x = some (.ref C))
    (hb : Binds X.K fd ps dus) (hd : Vals dvs dus) (hdd : ∀ I, IsSs X.K I (dds.map Sv.dat) dvs) (tk : Takes X W) (ha : PAd X W (e :: es) t) (hg : Gl X x := by rfl) (hdb : (x == ("__debug__" : Str)) = false := by decide)
    (he : starEach (e :: es) X.env = (false, eval e X.env) :: starEach es X.env := by rfl) (hpl : (backTo pos (starEach es X.env)).any (·.1) = false := by rfl) : PEd X W (.Call (.Name x p) (e :: es) [] pos) (dMake C ct dds t) :=
  PE.imp (pe_makeAt M F hr hm hb hd (fun σ => passAt tk σ) ha hg hdb he hpl) (low_make hdd)
/-- targets, walks, comprehensions -/
theorem gsnil : PGsd X [] dgNil := ⟨fun pins s σ H vs us Q I r h => pgs_nil.run pins s σ H vs us Q I r (lowGs_nil _ _ _ _ h)⟩
theorem gscons {g : DG} {v : DGs} (h1 : PGd X e g) (h2 : PGsd X es v) (hs : (assignEach (e :: es) X.env).map (·.2) = assign e X.env :: (assignEach es X.env).map (·.2) := by rfl) : PGsd X (e :: es) (dgCons g v) := ⟨fun pins s σ H vs us Q I r h => (pgs_cons h1 h2 hs).run pins s σ H vs us Q I r (lowGs_cons _ _ _ _ h)⟩
theorem gtup (n : Nat) {k : Nat} {v : DGs} (h : PGsd X es v) (hc : X.calm = true := by rfl) (hn : (assignEach es X.env).length = n := by rfl) (hst : (assignEach es X.env).findIdx? (·.1) = none := by rfl) : PGd X (.Tuple es k pos) (dgTup n v) := ⟨fun pins s σ H vs us Q I r q => (pg_tup hc h hn hst).run pins s σ H vs us Q I r (lowG_tup _ _ _ _ q)⟩
abbrev PGw (X : Cx) (vs : List Nat) (e : Expr) (g : DG) : Prop := PG X e (lowGw X.K vs g)
abbrev PGsw (X : Cx) (vs : List Nat) (es : List Expr) (g : DGs) : Prop := PGs X es (lowGsw X.K vs g)
theorem gwname (i : Nat) {vs : List Nat} {x : Str} (hN : X.N.Nodup) (hv : i ∈ vs := by decide) (hi : X.N[i]? = some x := by rfl) (hx : Loc X.env.scope x := by first | exact Or.inl rfl | exact Or.inr rfl) (hf : X.fn x = true ∨ X.env.scope.names.lookup x = some .local := by first | exact .inl rfl | exact .inr rfl | assumption) : PGw X vs (.Name x pos) (dgName i) :=
  ⟨fun pins s σ H v u Q I r h => (pg_name hN hi hx hf).run pins s σ H v u Q I r (lowGw_name hv _ _ _ _ h)⟩
theorem gswnil {vs : List Nat} : PGsw X vs [] dgNil := ⟨fun pins s σ H ws us Q I r h => pgs_nil.run pins s σ H ws us Q I r (lowGsw_nil _ _ _ _ h)⟩
theorem gswcons {vs : List Nat} {g : DG} {v : DGs} (h1 : PGw X vs e g) (h2 : PGsw X vs es v) (hs : (assignEach (e :: es) X.env).map (·.2) = assign e X.env :: (assignEach es X.env).map (·.2) := by rfl) : PGsw X vs (e :: es) (dgCons g v) := ⟨fun pins s σ H ws us Q I r h => (pgs_cons h1 h2 hs).run pins s σ H ws us Q I r (lowGsw_cons _ _ _ _ h)⟩
theorem gwtup (n : Nat) {vs : List Nat} {k : Nat} {v : DGs} (h : PGsw X vs es v) (hc : X.calm = true := by rfl) (hn : (assignEach es X.env).length = n := by rfl) (hst : (assignEach es X.env).findIdx? (·.1) = none := by rfl) : PGw X vs (.Tuple es k pos) (dgTup n v) := ⟨fun pins s σ H ws us Q I r q => (pg_tup hc h hn hst).run pins s σ H ws us Q I r (lowGw_tup _ _ _ _ q)⟩
theorem sasgG {tg : Expr} {g : DG} (he : PEd X W e te) (hg : PGd X tg g) (hs : swapsWithSole [tg] e pos.line X.env = pure false := by rfl) (hw : swappedStores [tg] e X.env = pure none := by rfl)
    (h1 : (assignEach [tg] X.env).map (·.2) = [assign tg X.env] := by rfl) : PSd X W (.Assign [tg] e pos) (dAsgG g te) := PS.imp (ps_asg he hg hs hw h1) lowS_asgG
abbrev PId (X : Cx) (W : WX) (tg e : Expr) (t : DI) : Prop := PI X tg e (lowI X.K t W)
theorem iL {tg : Expr} (h : PEd X W e te) : PId X W tg e (dItL te) := PI.imp (pi_list h) low_itL
theorem iT {tg : Expr} (h : PEd X W e te) : PId X W tg e (dItT te) := PI.imp (pi_tup h) low_itT
theorem iS {tg : Expr} (h : PEd X W e te) : PId X W tg e (dItS te) := PI.imp (pi_str h) low_itS
theorem iR {tg : Expr} {t : DA} (hm : X.mg "range" = none) (h : PAd X W [a] t) (hg : Gl X "range" := by rfl) (hs : starEach [a] X.env = [(false, eval a X.env)] := by rfl) : PId X W tg (.Call (.Name "range" p) [a] [] pos) (dItR t) := PI.imp (pi_range1 hg hm h hs) low_itR
theorem iR2 {tg : Expr} {t : DA} (hm : X.mg "range" = none) (h : PAd X W [a, b] t) (hg : Gl X "range" := by rfl) (hs : starEach [a, b] X.env = [(false, eval a X.env), (false, eval b X.env)] := by rfl) (hs2 : starEach [b] X.env = [(false, eval b X.env)] := by rfl) :
    PId X W tg (.Call (.Name "range" p) [a, b] [] pos) (dItR2 t) := PI.imp (pi_range2 hg hm h hs hs2) low_itR2
theorem sfor {tg iter : Expr} {g : DG} {it : DI} (hp : PassesOwn (model X.prog X.w) X.A X.env X.xe) (hi : PId X W tg iter it) (hg : PGd X tg g) (hb : PBd X W ss t) (hc : X.calm = true := by rfl)
    (hs : ∀ x, foldedSetIterable iter X.env x = pure x := by intro _; rfl) : PSd X W (.For tg iter ss [] pos) (dFor it g t) := PS.imp (ps_for hp hc hi hg hb hs) lowS_for
abbrev PTsd (X : Cx) (ifs : List Expr) (t : DT) : Prop := PTs X ifs (lowT X.K t W0)
theorem tsnil : PTsd X [] dYes := ⟨fun pins s σ H Q I h => pts_nil.run pins s σ H Q I (by
  obtain ⟨Δ, st, I, ok, ex, wd, sl, h, c, cx⟩ := h
  exact c _ _ _ _ h wd (Stp.refl _ _ _))⟩
theorem tsone {tt : DT} (h : PTd X W0 c tt) : PTsd X [c] tt := pts_one h
theorem dlc {elt tg iter : Expr} {ifs : List Expr} {scope : Scope} (own : List (Str × Nat)) {it : DI} {g : DG} {tt : DT} (hN : X.N.Nodup) (hi : PId X W tg iter it) (ok : BlkOk X.N X.env.scope scope own)
    (hg : ∀ (s : Shared) (H : Hp) (C : Addr) (cl : List (Str × Addr)) (fp : List Addr), PGw (X.blk s H scope (compEnvC scope cl C X.env) fp) (own.map (·.2)) tg g) (ht : ∀ (s : Shared) (H : Hp) (C : Addr) (cl : List (Str × Addr)) (fp : List Addr), PTsd (X.blk s H scope (compEnvC scope cl C X.env) fp) ifs tt)
    (he : ∀ (s : Shared) (H : Hp) (C : Addr) (cl : List (Str × Addr)) (fp : List Addr), PEd (X.blk s H scope (compEnvC scope cl C X.env) fp) W0 elt te) (hc : X.calm = true := by rfl) (hs : ∀ x, foldedSetIterable iter X.env x = pure x := by intro _; rfl) :
    PEd X W (.ListComp elt [⟨tg, iter, ifs, 0⟩] scope pos) (dLc it g tt te (own.map (·.2))) := PE.imp (pe_lc hc hN hi ok hg ht he hs) low_lc
end
end DD
namespace DD
open PySem PySem.Spec PyProof.Rows L2
/-- raise X('..'): no fields -/
def dRaise0 (C : Addr) : DS := fun Δ st N => N.ex ⟨C, []⟩ Δ st
/-- raise X(e): one field -/
def dRaise1 (C : Addr) (f : Str) (ta : DA) : DS := fun Δ st N => ta Δ st (fun xs st1 => match xs with
  | [.dat d] => N.ex ⟨C, [(f, d)]⟩ Δ st1
  | _ => False) (exAt N Δ)
/-- what an exception's __init__ with one store promises -/
def spX1 (f : Str) (C : Addr) : Sp := fun vs H Q _ => ∃ a v, vs = [.ref a, v] ∧ H a = some (exo a C none) ∧ ∀ dx, H dx = none → dx ≠ a → Q .non (upd (upd H dx (exd dx [(f, v)])) a (exo a C (some dx)))
section
variable {K : PySem.W.Frag} {W : WX} {st : Store} {I H : Hp}
theorem lowS_raise0 {C : Addr} : ∀ D σ H, lowS K (dRaise0 C) W D σ H → W (.ref C) none σ H := by
  rintro D σ H ⟨Δ, st, I, N, wd, sl, h, e⟩
  exact e.ex _ _ _ _ _ _ _ _ h wd (Stp.refl _ _ _) sl ⟨rfl, .inl ⟨rfl, rfl⟩⟩
theorem lowS_raise1 {C : Addr} {f : Str} {ta : DA} : ∀ D σ H, lowS K (dRaise1 C f ta) W D σ H → tMkO C (spX1 f C) [] (lowA K ta W) σ H fun cls d H' => W cls d σ H' := by
  rintro D σ H ⟨Δ, st, I, N, wd, sl, h, e⟩
  refine lowA_go wd sl h (fun xs st1 vs I1 H1 h1 w1 s1 i1 => ?_) (cx_of sl e)
  split at h1
  · rename_i d
    obtain ⟨v, rfl, iv⟩ := one_of rfl i1
    refine ⟨by show 1 ≤ 1000; decide, fun a ha => ⟨a, v, rfl, upd_same, fun dx hdx ne => ⟨rfl, dx, _, upd_same, by rw [upd_ne ne, upd_same], ?_, ?_⟩⟩⟩
    · rwa [upd_ne ne] at hdx
    · rw [upd_ne ne] at hdx
      have he : upd (del (upd (upd (upd H1 a (exo a C none)) dx (exd dx [(f, v)])) a (exo a C (some dx))) a) dx (.xd [(f, v)]) = upd H1 dx (.xd [(f, v)]) := by
        funext b
        by_cases z : b = dx
        · rw [z, upd_same, upd_same]
        · rw [upd_ne z, upd_ne z]
          by_cases z2 : b = a
          · rw [z2, del_same, ha]
          · rw [del_ne z2, upd_ne z2, upd_ne z, upd_ne z2]
      rw [he]
      obtain ⟨w2, s2⟩ := new_known (o := .xd [(f, v)]) w1 hdx
      have ix : Ex I1 (upd I1 dx (.xd [(f, v)])) := Ex.new (w1.sub.none hdx)
      cases iv with
      | dat hd => exact e.ex _ _ _ _ _ _ _ _ h1 w2 (s1.trans s2) (sl.mono (s1.ii.trans ix)) ⟨rfl, .inr ⟨List.cons_ne_nil _ _, dx, _, rfl, upd_same, .cons (hd.mono ix) .nil⟩⟩
  · exact h1.elim
end
section
variable {X : Cx} {W : WX} {e o : Expr} {es : List Expr} {te to : DE} {pos p p2 pos2 : Pos}
theorem sraise0 {C : Addr} {x m : Str} {j : Nat} {bmB : List Value} {B newId initId : String} (F : ExcBaseFacts B newId initId bmB) (q : PySem.W.excIn X.K C bmB newId = true) (gC : X.mg x = some (.ref C)) (kC : PySem.W.keepIn X.K (.ref C) = true) (r : Raises X (.ref C)) (tk : Takes X W)
    (hc : X.calm = true := by rfl) (hg : Gl X x := by rfl) (hdb : (x == ("__debug__" : Str)) = false := by decide) : PSd X W (.Raise (some (.Call (.Name x p) [.Constant (.str m) j p2] [] pos)) none pos2) (dRaise0 C) :=
  PS.imp (ps_raise hc tk (pmk_own F q gC kC r hg hdb)) lowS_raise0
theorem sraise1 {C fI : Addr} {x f : Str} {k : Nat} {fd : FuncData} {ps : List Str} {ta : DA} (T : OexC X.K C) (iC : PySem.W.findIn X.K (.ref C) "__init__" = some (some (.ref fI))) (tI : PySem.W.typeIn X.K (.ref fI) = some (.type "function"))
    (F1 : FnOk X.prog X.w X.K X.mg X.base CX0 k fI fd ps (spX1 f C)) (hr : Room (k + 1) X.A) (hb : Binds X.K fd ps []) (hm : X.mg x = some (.ref C)) (tk : Takes X W) (ha : PAd X W (e :: es) ta) (hc : X.calm = true := by rfl) (hg : Gl X x := by rfl)
    (hdb : (x == ("__debug__" : Str)) = false := by decide) (he : starEach (e :: es) X.env = (false, eval e X.env) :: starEach es X.env := by rfl) (hpl : (backTo pos (starEach es X.env)).any (·.1) = false := by rfl) :
    PSd X W (.Raise (some (.Call (.Name x p) (e :: es) [] pos)) none pos2) (dRaise1 C f ta) :=
  PS.imp (ps_raise hc tk (pmk_oex T iC tI F1 hr hb .nil (fun _ _ _ _ _ _ _ h => h.elim) hg hm ha hdb he hpl)) fun D σ H h => lowS_raise1 D σ H h
end
/-- such an __init__ -/
theorem ok_x1 {P : Program} {w : World} {K : PySem.W.Frag} {mg : Str → Option Value} {base : Heap} {qual : Str} {st : Stmt} {fI C : Addr} {fd : FuncData} {x f : Str} (F : Fun K "__init__" qual st fI fd) (S : FnScope ["self", x] ["self", x] (defScope st)) (T : OexC K C) (hno : PySem.W.findIn K (.ref C) f = some none)
    (hd : ∀ (cdv : Value) (A : Around) (outer : List Env) (s : Shared) (H : Hp) (E : XK), PSs (cxOf CX0 P w K mg base ["self", x] qual (defScope st) fI cdv A outer s H E).nox (defBody st) (tOst K f (tVar 0) (tVar 1))) : FnOk P w K mg base CX0 1 fI fd ["self", x] (spX1 f C) := by
  refine F.ok S (fun vs H Q E h => ?_) (fun cdv A outer s H vs Q E hr h => ?_)
  · obtain ⟨a, v, rfl, _⟩ := h
    rfl
  · obtain ⟨a, v, rfl, ha, k⟩ := h
    exact ⟨_, hd cdv A outer s H E, v, rfl, .ref a, rfl, a, C, rfl, T, hno, .inl ⟨ha, k⟩⟩
def tMethAt (C : Addr) (m : Str) (sp : Sp) (dvs : List V) (E : L2.St → XK) (ta : TE) (t : TA) : TE := fun σ H Q => ta σ H fun x H1 => ∃ a dx fs, x = .ref a ∧ H1 a = some (.ins C dx fs) ∧ fs.lookup m = none ∧ t σ H1 fun vs H2 => sp (x :: (vs ++ dvs)) H2 Q (E σ)
section
variable {X : Cx} {CX : CXT} {k : Nat} {f C : Addr} {fd : FuncData} {ps : List Str} {sp : Sp} {dvs : List V} {dus : List Value} {E : L2.St → XK} {x m : Str} {p apos pos : Pos} {e o : Expr} {es : List Expr} {ta : TE} {t : TA}
theorem pe_methAt {pl : Sem Bool} (he : PE X o ta) (c : Cls X.K C) (hm : Meth X.K C m f) (F : FnOk X.prog X.w X.K X.mg X.base CX k f fd ps sp) (hr : Room k X.A) (hb : Binds X.K fd ps dus) (hd : Vals dvs dus) (hx : ∀ σ, PassesAt CX X σ (E σ)) (ha : PA X (e :: es) t)
    (hst : starEach (e :: es) X.env = (false, eval e X.env) :: starEach es X.env := by rfl) (hpl : (backTo pos (starEach es X.env)).any (·.1) = false := by rfl)
    (ht : eval (.Call (.Attribute o m apos) (e :: es) [] pos) X.env = (do
      let ov ← eval o X.env
      standAt apos.atName
      let (f, first) ← holding [ov] (getMethod ov m pl)
      callWith pos f first (backTo pos (starEach (e :: es) X.env)) (backToKw pos (keywordEach [] X.env))) := by rfl) :
    PE X (.Call (.Attribute o m apos) (e :: es) [] pos) (tMethAt C m sp dvs E ta t) := by
  constructor
  intro pins s σ H Q I h
  apply PySem.W.methodCall_KW (pl := pl) _ ht
  apply thn (he.run pins s σ H _ I h)
  rintro u s1 ⟨y, H1, I1, ry, a, dx, fs, ey, ea, l, q⟩
  subst ey
  have eu : u = Value.ref a := ry
  subst eu
  apply getmeth_ok I1 ea c hm l
  apply PySem.W.callWith_K (first := [.ref a]) (h₀ := X.base) I.ok.mod.kin hm.kp _ hst hpl
  apply thn (ha.run pos pins s1 σ H1 _ I1 q)
  rintro us s2 ⟨vs, H2, I2, r, q2⟩
  exact ⟨I2.kIn, run_fnSD (us := .ref a :: us) (vs := .ref a :: vs) F hr hb hd (hx σ) I2 (.cons rfl r) q2⟩
end
def dMeth (C : Addr) (m : Str) (ct : Ct) (dds : List Dt) (te : DE) (t : DA) : DE := fun Δ st ok ex => te Δ st (fun s st1 => match s with
  | .dat (.ins D fs) => D = C ∧ fs.lookup m = none ∧ t Δ st1 (fun xs st2 => ct (.dat (.ins D fs) :: (xs ++ dds.map Sv.dat)) st2 ok ex) ex
  | .own p => (∃ (j : Nat) (fs : List (Str × Sv)), st1[j]? = some (p, Ob.ins C fs) ∧ fs.lookup m = none) ∧ t Δ st1 (fun xs st2 => ct (.own p :: (xs ++ dds.map Sv.dat)) st2 ok ex) ex
  | _ => False) ex
theorem isDf_none {K : PySem.W.Frag} {I : Hp} {f : Str} : ∀ {ds : List (Str × Dt)} {vs : List (Str × V)}, IsDf K I ds vs → ds.lookup f = none → vs.lookup f = none
  | _, _, .nil, _ => rfl
  | _, _, .cons (k := k) a r, h => by
    rw [List.lookup_cons] at h ⊢
    cases e : f == k with
    | true => rw [e] at h; cases h
    | false => rw [e] at h; exact isDf_none r h
theorem rk_none {K : PySem.W.Frag} {I : Hp} {f : Str} : ∀ {ds : List (Str × Sv)} {vs : List (Str × V)}, Paired (RK K I) ds vs → ds.lookup f = none → vs.lookup f = none
  | _, _, .nil, _ => rfl
  | _, _, .cons (a := (k, s)) (b := (k', v)) a r, h => by
    obtain ⟨e1, e2⟩ := a
    have e1 : k = k' := e1
    subst e1
    rw [List.lookup_cons] at h ⊢
    cases e : f == k with
    | true => rw [e] at h; cases h
    | false => rw [e] at h; exact rk_none r h
theorem low_meth {K : PySem.W.Frag} {W : WX} {C : Addr} {m : Str} {ct : Ct} {dds : List Dt} {dvs : List V} {te : DE} {t : DA} (hd : ∀ I, IsSs K I (dds.map Sv.dat) dvs) : ∀ σ H Q, low K (dMeth C m ct dds te t) W σ H Q → tMethAt C m (lowF K ct) dvs (WE W) (low K te W) (lowA K t W) σ H Q := by
  rintro σ H Q ⟨Δ, st, I, ok, ex, wd, sl, h, c, cx⟩
  refine low_go wd sl h (fun x st1 v I1 H1 h1 w1 s1 i1 => ?_) cx
  cases i1 with
  | own p =>
    obtain ⟨⟨j, fs, hj, hl⟩, h1⟩ := h1
    obtain ⟨u, hu, io⟩ := own_at w1 hj
    cases io with
    | ins hs =>
      refine ⟨p, _, _, rfl, hu, rk_none hs hl, lowA_go w1 (sl.mono s1.ii) h1 (fun xs st2 vs I2 H2 h2 w2 s2 i2 => ?_) (cx.go s1)⟩
      exact ⟨_, st2, I2, ok, ex, w2, .cons (.own p) (paired_app i2 (hd I2)), h2, c.go (s1.trans s2), cx.go (s1.trans s2)⟩
  | dat hd' =>
    cases hd' with
    | ins a b =>
      obtain ⟨rfl, hl, h1⟩ := h1
      refine ⟨_, _, _, rfl, w1.sub.at a (by intro k z; cases z) (by intro k z; cases z), isDf_none b hl, lowA_go w1 (sl.mono s1.ii) h1 (fun xs st2 vs I2 H2 h2 w2 s2 i2 => ?_) (cx.go s1)⟩
      exact ⟨_, st2, I2, ok, ex, w2, .cons (.dat ((IsD.ins a b).mono s2.ii)) (paired_app i2 (hd I2)), h2, c.go (s1.trans s2), cx.go (s1.trans s2)⟩
    | _ => exact h1.elim
theorem dmeth {X : Cx} {W : WX} {te : DE} {pos apos : Pos} {e o : Expr} {es : List Expr} {ct : Ct} {k : Nat} {f C : Addr} {fd : FuncData} {ps : List Str} {m : Str} {dds : List Dt} {dvs : List V} {dus : List Value} {t : DA} {pl : Sem Bool} (c : Cls X.K C) (hm : Meth X.K C m f)
    (F : FnOk X.prog X.w X.K X.mg X.base (L2.CX X.prog X.w) k f fd ps (lowF X.K ct)) (hr : Room k X.A) (hb : Binds X.K fd ps dus) (hd : Vals dvs dus) (hdd : ∀ I, IsSs X.K I (dds.map Sv.dat) dvs) (tk : Takes X W) (he : PEd X W o te) (ha : PAd X W (e :: es) t)
    (hst : starEach (e :: es) X.env = (false, eval e X.env) :: starEach es X.env := by rfl) (hpl : (backTo pos (starEach es X.env)).any (·.1) = false := by rfl)
    (ht : eval (.Call (.Attribute o m apos) (e :: es) [] pos) X.env = (do
      let ov ← eval o X.env
      standAt apos.atName
      let (f, first) ← holding [ov] (getMethod ov m pl)
      callWith pos f first (backTo pos (starEach (e :: es) X.env)) (backToKw pos (keywordEach [] X.env))) := by rfl) :
    PEd X W (.Call (.Attribute o m apos) (e :: es) [] pos) (dMeth C m ct dds te t) := PE.imp (pe_methAt he c hm F hr hb hd (fun σ => passAt tk σ) ha hst hpl ht) (low_meth hdd)
/-- x[i] by one's own __getitem__ -/
def tGetAt (C : Addr) (sp : Sp) (E : L2.St → XK) (ta tb : TE) : TE := fun σ H Q => ta σ H fun x H1 => tb σ H1 fun y H2 => ∃ a dx fs, x = .ref a ∧ H2 a = some (.ins C dx fs) ∧ sp [x, y] H2 Q (E σ)
theorem pe_getAt {X : Cx} {CX : CXT} {k : Nat} {f C : Addr} {fd : FuncData} {ps : List Str} {sp : Sp} {E : L2.St → XK} {pos : Pos} {a b : Expr} {ta tb : TE} (ha : PE X a ta) (hb : PE X b tb) (hs : PySem.W.findIn X.K (.ref C) "__getitem__" = some (some (.ref f))) (hfi : PySem.W.fnIn X.K f = true) (hfn : PySem.W.isFn X.K (.ref f) = true)
    (F : FnOk X.prog X.w X.K X.mg X.base CX k f fd ps sp) (hr : Room (k + 1) X.A) (bb : Binds X.K fd ps []) (hx : ∀ σ, PassesAt CX X σ (E σ)) (hsl : ∀ x i, subscripted b true x i = runValue (.builtin "lifetime.subscript" ⟨[x, i], []⟩) := by with_unfolding_all exact fun _ _ => rfl) :
    PE X (.Subscript a b pos) (tGetAt C sp E ta tb) := by
  constructor
  intro pins s σ H Q I h
  apply Subscript_
  apply binT ha hb I (R := fun x y H2 => ∃ a dx fs, x = .ref a ∧ H2 a = some (.ins C dx fs) ∧ sp [x, y] H2 Q (E σ)) h
  rintro v u s2 x y H2 I2 rx ry ⟨c, dx, fs, ex, ec, q⟩
  subst ex
  have ev : v = Value.ref c := rx
  subst ev
  obtain ⟨mA, O, _⟩ := ins_get I2.hok ec
  obtain ⟨od, J, _⟩ := O.look
  obtain ⟨m, fr⟩ := I2.fr
  refine PySem.W.sub_K fr I.ok.mod.kin J hs hfi hfn ?_ (hsl _ _)
  apply wpAny_call
  have len : ([Value.ref c, u] ++ []).length = ps.length := by rw [← F.len _ _ _ _ q]; rfl
  apply codeAny_mono (F.run X.A.in1 X.stack s2 H2 ⟨[.ref c, u], []⟩ ([.ref c, u] ++ []) [.ref c, y] Q (E σ) hr.in1 I2.env0.in1 (bb _ [.ref c, u] I2.kIn len) (.cons rfl (.cons ry .nil)) q)
  intro res s3 hres
  match res, hres with
  | .error er, z => exact hx σ pins _ _ er s3 I2 z
  | .ok (.ret w'), z => exact I2.after z
  | .ok .next, z => exact False.elim z
  | .ok .brk, z => exact False.elim z
  | .ok .cont, z => exact False.elim z
def dGet (C : Addr) (ct : Ct) (ta tb : DE) : DE := fun Δ st ok ex => ta Δ st (fun x st1 => tb Δ st1 (fun y st2 => match x with
  | .dat (.ins D fs) => D = C ∧ ct [.dat (.ins D fs), y] st2 ok ex
  | _ => False) ex) ex
theorem low_get {K : PySem.W.Frag} {W : WX} {C : Addr} {ct : Ct} {ta tb : DE} : ∀ σ H Q, low K (dGet C ct ta tb) W σ H Q → tGetAt C (lowF K ct) (WE W) (low K ta W) (low K tb W) σ H Q := by
  rintro σ H Q ⟨Δ, st, I, ok, ex, wd, sl, h, c, cx⟩
  refine low_go wd sl h (fun x st1 v I1 H1 h1 w1 s1 i1 => ?_) cx
  refine low_go w1 (sl.mono s1.ii) h1 (fun y st2 u I2 H2 h2 w2 s2 i2 => ?_) (cx.go s1)
  cases i1 with
  | own p => exact h2.elim
  | dat hd =>
    cases hd with
    | ins a b =>
      obtain ⟨rfl, h2⟩ := h2
      have a2 := s2.ii _ _ a
      exact ⟨_, _, _, rfl, w2.sub.at a2 (by intro k z; cases z) (by intro k z; cases z), _, st2, I2, ok, ex, w2, .cons (.dat ((IsD.ins a b).mono s2.ii)) (.cons i2 .nil), h2, c.go (s1.trans s2), cx.go (s1.trans s2)⟩
    | _ => exact h2.elim
theorem dget {X : Cx} {W : WX} {ct : Ct} {k : Nat} {f C : Addr} {fd : FuncData} {ps : List Str} {pos : Pos} {a b : Expr} {ta tb : DE} (hs : PySem.W.findIn X.K (.ref C) "__getitem__" = some (some (.ref f))) (hfi : PySem.W.fnIn X.K f = true) (hfn : PySem.W.isFn X.K (.ref f) = true)
    (F : FnOk X.prog X.w X.K X.mg X.base (L2.CX X.prog X.w) k f fd ps (lowF X.K ct)) (hr : Room (k + 1) X.A) (bb : Binds X.K fd ps []) (tk : Takes X W) (ha : PEd X W a ta) (hb : PEd X W b tb) (hsl : ∀ x i, subscripted b true x i = runValue (.builtin "lifetime.subscript" ⟨[x, i], []⟩) := by with_unfolding_all exact fun _ _ => rfl) :
    PEd X W (.Subscript a b pos) (dGet C ct ta tb) := PE.imp (pe_getAt ha hb hs hfi hfn F hr bb (fun σ => passAt tk σ) hsl) low_get
end DD
namespace DD
open PySem PySem.Spec PyProof.Rows L2
theorem fn_lowD {P : Program} {w : World} {K : PySem.W.Frag} {mg : Str → Option Value} {base : Heap} {x qual : Str} {st : Stmt} {f : Addr} {fd : FuncData} {N ps : List Str} {k : Nat} {ct : Ct} {dvs : List V} (t : DS) (F : FunD K x qual (defArgs st) (defBody st) (defScope st) dvs [] f fd) (S : FnScope N ps (defScope st)) (len : ∀ ss st ok ex, ct ss st ok ex → ss.length = ps.length)
    (hsem : ∀ ss st ok ex, ct ss st ok ex → t (ss ++ List.replicate (N.length - ss.length) .un) st (endsOf ok ex))
    (hbody : ∀ (cdv : Value) (A : Around) (outer : List Env) (s : Shared) (H : Hp) (E : XK), Room k (A.deeper (envOfC qual (defScope st) s.heap.objs.size f cdv)) → Takes (cxD P w K mg base N qual (defScope st) f cdv A outer s H E) (WF E) →
      PassesOwn (model P w) (cxD P w K mg base N qual (defScope st) f cdv A outer s H E).A (cxD P w K mg base N qual (defScope st) f cdv A outer s H E).env (cxD P w K mg base N qual (defScope st) f cdv A outer s H E).xe →
      PBd (cxD P w K mg base N qual (defScope st) f cdv A outer s H E) (WF E) (defBody st) t) :
    FnOk P w K mg base (L2.CX P w) (k + 1) f fd ps (lowF K ct) := by
  refine F.ok S (fun vs H Q E h => ?_) (fun cdv A outer s H vs Q E hr h => ?_)
  · obtain ⟨ss, st, I, ok, ex, wd, iv, h, _⟩ := h
    rw [← paired_len iv]
    exact len _ _ _ _ h
  · obtain ⟨ss, st0, I, ok, ex, wd, iv, h, c, cx⟩ := h
    refine ⟨_, hbody cdv A outer s H E hr (takes_of rfl rfl rfl rfl) (passes_of rfl), ?_⟩
    refine lowS_go wd (sl_start iv) (hsem _ _ _ _ h) ⟨?_, ?_, ?_, ?_, ?_⟩
    · rintro Δ st' σ' I' H' ⟨st'', hs, h'⟩ w' s' l'
      exact c _ _ _ _ _ h' (wd_drop w' hs) (stp_drop s' hs) (.dat .non)
    · rintro s st' v I' H' ⟨s', st'', hf, h'⟩ w' sp i'
      obtain ⟨I2, w2, s2, i2⟩ := fin_ok w' sp i' hf
      exact c _ _ _ _ _ h' w2 s2 i2
    · intro _ _ _ _ _ h'
      exact h'.elim
    · intro _ _ _ _ _ h'
      exact h'.elim
    · rintro x Δ' st' cls d σ' I' H' ⟨st'', hs, h'⟩ w' sp l' xi
      exact cx x st'' cls d I' H' h' (wd_drop w' hs) (stp_drop sp hs) xi
mutual
inductive PyOf : Dt → PyData → Prop
  | non : PyOf .non .none
  | bl (b : Bool) : PyOf (.bl b) (.bool b)
  | int (i : Int) : PyOf (.int i) (.int i)
  | str (x : Str) : PyOf (.str x) (.str x)
  | lst {ds : List Dt} {ps : List PyData} : PyOfs ds ps → PyOf (.lst ds) (.list ps)
  | tup {ds : List Dt} {ps : List PyData} : PyOfs ds ps → PyOf (.tup ds) (.tuple ps)
inductive PyOfs : List Dt → List PyData → Prop
  | nil : PyOfs [] []
  | cons {d : Dt} {p : PyData} {ds : List Dt} {ps : List PyData} : PyOf d p → PyOfs ds ps → PyOfs (d :: ds) (p :: ps)
end
mutual
theorem PyOf.dp {K : PySem.W.Frag} {st : Store} {I H : Hp} (w : Wd K st I H) : ∀ {d : Dt} {p : PyData} {v : V}, PyOf d p → IsD K I d v → Dp K H v p
  | _, _, _, .non, .non => .non
  | _, _, _, .bl b, .bl _ => .bl b
  | _, _, _, .int i, .int _ => .int i
  | _, _, _, .str x, .str _ => .str x
  | _, _, _, .lst h, .lst a b => .lst (w.sub.sl (.inl (.inl a))) (PyOfs.dp w h b)
  | _, _, _, .tup h, .tup a b => .tup (w.sub.st (.inl (.inl a))) (PyOfs.dp w h b)
theorem PyOfs.dp {K : PySem.W.Frag} {st : Store} {I H : Hp} (w : Wd K st I H) : ∀ {ds : List Dt} {ps : List PyData} {vs : List V}, PyOfs ds ps → IsDs K I ds vs → DpAll K H vs ps
  | _, _, _, .nil, .nil => .nil
  | _, _, _, .cons a b, .cons c d => .cons (PyOf.dp w a c) (PyOfs.dp w b d)
end
theorem PyOfs.map {α : Type} {f : α → Dt} {g : α → PyData} (h : ∀ a, PyOf (f a) (g a)) : ∀ xs : List α, PyOfs (xs.map f) (xs.map g)
  | [] => .nil
  | a :: xs => .cons (h a) (PyOfs.map h xs)
def gEqP (neg : Bool) : G2 := fun x y st ok => match x, y with
  | .dat d, .dat e => ∃ p q, PyOf d p ∧ PyOf e q ∧ SeqAt.shaped p = true ∧ SeqAt.shaped q = true ∧ ok (.dat (.bl (if neg then !PyData.eqv p q else PyData.eqv p q))) st
  | _, _ => False
theorem lr_eqP {K : PySem.W.Frag} : LR2 K (rEqD K) (gEqP false) := by
  intro x y st I H ok Q v w wd ix iy h c
  cases ix with
  | own p => exact h.elim
  | dat hx =>
    cases iy with
    | own p => exact h.elim
    | dat hy =>
      obtain ⟨p, q, h1, h2, h3, h4, h⟩ := h
      exact ⟨p, q, h1.dp wd hx, h2.dp wd hy, h3, h4, c.now wd h (.dat (.bl _))⟩
theorem lr_neP {K : PySem.W.Frag} : LR2 K (rNeD K) (gEqP true) := by
  intro x y st I H ok Q v w wd ix iy h c
  cases ix with
  | own p => exact h.elim
  | dat hx =>
    cases iy with
    | own p => exact h.elim
    | dat hy =>
      obtain ⟨p, q, h1, h2, h3, h4, h⟩ := h
      exact ⟨p, q, h1.dp wd hx, h2.dp wd hy, h3, h4, c.now wd h (.dat (.bl _))⟩
/-- x in a tuple | list of data -/
def rInP (K : PySem.W.Frag) (neg : Bool) : R2 := fun x y H Q => ∃ d ds, Dp K H x d ∧ (Dp K H y (.tuple ds) ∨ Dp K H y (.list ds)) ∧ SeqAt.shaped d = true ∧ (PyData.canLayAll0 ds = true) ∧ Q (.bl (if neg then !ds.any fun z => PyData.eqv z d else ds.any fun z => PyData.eqv z d)) H
theorem op_inP {X : Cx} (hu : X.A.units + 65 < cLine) : OpR X (compareOp .In) (rInP X.K false) := by
  intro pins s σ H x y v u Q I rx ry h
  obtain ⟨d, ds, hd, he, sd, se, q⟩ := h
  obtain ⟨as, r1⟩ := Dp.reads I d x v hd rx
  have room : X.A.units + 1 + min (PyData.depthAll ds) d.depth < cLine := by
    have l1 := SeqAt.depth_of_shaped sd
    have l2 : min (PyData.depthAll ds) d.depth ≤ d.depth := Nat.min_le_right _ _
    omega
  rcases he with he | he
  · obtain ⟨bs, r2⟩ := Dp.reads I (.tuple ds) y u he ry
    exact SeqAt.in_tuple_reads r2 r1 se (SeqAt.canLay_of_shaped sd) room ⟨.bl _, H, I, rfl, q⟩
  · obtain ⟨bs, r2⟩ := Dp.reads I (.list ds) y u he ry
    exact SeqAt.in_list_reads r2 r1 se (SeqAt.canLay_of_shaped sd) room ⟨.bl _, H, I, rfl, q⟩
theorem op_niP {X : Cx} (hu : X.A.units + 65 < cLine) : OpR X (compareOp .NotIn) (rInP X.K true) := by
  intro pins s σ H x y v u Q I rx ry h
  obtain ⟨d, ds, hd, he, sd, se, q⟩ := h
  obtain ⟨as, r1⟩ := Dp.reads I d x v hd rx
  have room : X.A.units + 1 + min (PyData.depthAll ds) d.depth < cLine := by
    have l1 := SeqAt.depth_of_shaped sd
    have l2 : min (PyData.depthAll ds) d.depth ≤ d.depth := Nat.min_le_right _ _
    omega
  rcases he with he | he
  · obtain ⟨bs, r2⟩ := Dp.reads I (.tuple ds) y u he ry
    exact SeqAt.notIn_tuple_reads r2 r1 se (SeqAt.canLay_of_shaped sd) room ⟨.bl _, H, I, rfl, q⟩
  · obtain ⟨bs, r2⟩ := Dp.reads I (.list ds) y u he ry
    exact SeqAt.notIn_list_reads r2 r1 se (SeqAt.canLay_of_shaped sd) room ⟨.bl _, H, I, rfl, q⟩
def gInP (neg : Bool) : G2 := fun x y st ok => match x, y with
  | .dat d, .dat (.tup es) => ∃ p qs, PyOf d p ∧ PyOfs es qs ∧ SeqAt.shaped p = true ∧ PyData.canLayAll0 qs = true ∧ ok (.dat (.bl (if neg then !qs.any fun z => PyData.eqv z p else qs.any fun z => PyData.eqv z p))) st
  | .dat d, .dat (.ktu es) => ∃ p qs, PyOf d p ∧ PyOfs es qs ∧ SeqAt.shaped p = true ∧ PyData.canLayAll0 qs = true ∧ ok (.dat (.bl (if neg then !qs.any fun z => PyData.eqv z p else qs.any fun z => PyData.eqv z p))) st
  | .dat d, .dat (.lst es) => ∃ p qs, PyOf d p ∧ PyOfs es qs ∧ SeqAt.shaped p = true ∧ PyData.canLayAll0 qs = true ∧ ok (.dat (.bl (if neg then !qs.any fun z => PyData.eqv z p else qs.any fun z => PyData.eqv z p))) st
  | .dat d, .own a => ∃ (j : Nat) (ys : List Sv) (es : List Dt) (p : PyData) (qs : List PyData), st[j]? = some (a, Ob.lst ys) ∧ AllD ys es ∧ PyOf d p ∧ PyOfs es qs ∧ SeqAt.shaped p = true ∧ PyData.canLayAll0 qs = true ∧ ok (.dat (.bl (if neg then !qs.any fun z => PyData.eqv z p else qs.any fun z => PyData.eqv z p))) st
  | _, _ => False
theorem lr_inP {K : PySem.W.Frag} {neg : Bool} : LR2 K (rInP K neg) (gInP neg) := by
  intro x y st I H ok Q v w wd ix iy h c
  cases ix with
  | own p => cases iy with
    | own q => exact h.elim
    | dat hy => cases hy <;> exact h.elim
  | dat hx =>
    cases iy with
    | own a =>
      obtain ⟨j, ys, es, p, qs, hj, ha, h1, h2, h3, h4, h⟩ := h
      obtain ⟨o, ho, io⟩ := own_at wd hj
      cases io with
      | lst hs => exact ⟨p, qs, h1.dp wd hx, .inr (.lst (.inl (.inl ho)) (h2.dp wd (isDs_of ha hs))), h3, h4, c.now wd h (.dat (.bl _))⟩
    | dat hy =>
      cases hy with
      | tup a b =>
        obtain ⟨p, qs, h1, h2, h3, h4, h⟩ := h
        exact ⟨p, qs, h1.dp wd hx, .inl (.tup (wd.sub.st (.inl (.inl a))) (h2.dp wd b)), h3, h4, c.now wd h (.dat (.bl _))⟩
      | ktu a b =>
        obtain ⟨p, qs, h1, h2, h3, h4, h⟩ := h
        exact ⟨p, qs, h1.dp wd hx, .inl (.tup (wd.sub.st a) (h2.dp wd b)), h3, h4, c.now wd h (.dat (.bl _))⟩
      | lst a b =>
        obtain ⟨p, qs, h1, h2, h3, h4, h⟩ := h
        exact ⟨p, qs, h1.dp wd hx, .inr (.lst (wd.sub.sl (.inl (.inl a))) (h2.dp wd b)), h3, h4, c.now wd h (.dat (.bl _))⟩
      | _ => exact h.elim
section
variable {κ α β : Type} [DecidableEq κ]
/-- what is at a key | the dict with an item put -/
def getD (kvs : List (κ × α)) (k : κ) : Option α := (kvs.find? fun kv => decide (kv.1 = k)).map (·.2)
def putD (kvs : List (κ × α)) (k : κ) (a : α) : List (κ × α) := if (kvs.any fun kv => decide (kv.1 = k)) = true then kvs.map (fun kv => if kv.1 = k then (kv.1, a) else kv) else kvs ++ [(k, a)]
end
theorem getD_V {κ : Type} [DecidableEq κ] (kvs : List (κ × V)) (k : κ) : valV kvs k = getD kvs k := rfl
section
variable {K : PySem.W.Frag} {I : Hp} {κ : Type} [DecidableEq κ]
theorem rk_get {k : κ} : ∀ {xs : List (κ × Sv)} {vs : List (κ × V)}, Paired (RK K I) xs vs → (∀ s, getD xs k = some s → ∃ v, getD vs k = some v ∧ IsS K I s v) ∧ (getD xs k = none → getD vs k = none)
  | _, _, .nil => ⟨fun s h => (by cases h), fun _ => rfl⟩
  | _, _, .cons (a := (j, s)) (b := (j', v)) (l₁ := xs) (l₂ := vs) r t => by
    obtain ⟨e1, e2⟩ := r
    have e1 : j = j' := e1
    subst e1
    have ih := rk_get (k := k) t
    by_cases e : j = k
    · have g1 : getD ((j, s) :: xs) k = some s := by unfold getD; rw [List.find?_cons_of_pos (by simpa using e)]; rfl
      have g2 : getD ((j, v) :: vs) k = some v := by unfold getD; rw [List.find?_cons_of_pos (by simpa using e)]; rfl
      rw [g1, g2]
      exact ⟨fun s' h => (by cases h; exact ⟨v, rfl, e2⟩), fun h => (by cases h)⟩
    · have g1 : getD ((j, s) :: xs) k = getD xs k := by unfold getD; rw [List.find?_cons_of_neg (by simpa using e)]
      have g2 : getD ((j, v) :: vs) k = getD vs k := by unfold getD; rw [List.find?_cons_of_neg (by simpa using e)]
      rw [g1, g2]
      exact ih
theorem rk_any {k : κ} : ∀ {xs : List (κ × Sv)} {vs : List (κ × V)}, Paired (RK K I) xs vs → (xs.any fun kv => decide (kv.1 = k)) = vs.any fun kv => decide (kv.1 = k)
  | _, _, .nil => rfl
  | _, _, .cons (a := (j, s)) (b := (j', v)) r t => by
    obtain ⟨e1, e2⟩ := r
    have e1 : j = j' := e1
    subst e1
    rw [List.any_cons, List.any_cons, rk_any t]
theorem rk_map {k : κ} {s : Sv} {v : V} (h : IsS K I s v) : ∀ {xs : List (κ × Sv)} {vs : List (κ × V)}, Paired (RK K I) xs vs → Paired (RK K I) (xs.map fun kv => if kv.1 = k then (kv.1, s) else kv) (vs.map fun kv => if kv.1 = k then (kv.1, v) else kv)
  | _, _, .nil => .nil
  | _, _, .cons (a := (j, s')) (b := (j', v')) r t => by
    obtain ⟨e1, e2⟩ := r
    have e1 : j = j' := e1
    subst e1
    rw [List.map_cons, List.map_cons]
    refine .cons ?_ (rk_map h t)
    by_cases e : j = k
    · rw [if_pos e, if_pos e]
      exact ⟨rfl, h⟩
    · rw [if_neg e, if_neg e]
      exact ⟨rfl, e2⟩
theorem rk_putD {k : κ} {s : Sv} {v : V} (h : IsS K I s v) {xs : List (κ × Sv)} {vs : List (κ × V)} (r : Paired (RK K I) xs vs) : Paired (RK K I) (putD xs k s) (putK vs k v) := by
  unfold putD putK
  rw [rk_any r]
  split
  · exact rk_map h r
  · exact paired_app r (.cons ⟨rfl, h⟩ .nil)
end
theorem rk_of : ∀ {K : PySem.W.Frag} {I : Hp} {ds : List (Key × Dt)} {vs : List (Key × V)}, IsDk K I ds vs → Paired (RK K I) (ds.map fun kv => (kv.1, Sv.dat kv.2)) vs
  | _, _, _, _, .nil => .nil
  | _, _, _, _, .cons a b => .cons ⟨rfl, .dat a⟩ (rk_of b)
/-- a key -/
def keyD : Dt → Option Key
  | .int i => some (.inl i)
  | .str x => some (.inr x)
  | _ => none
/-- what is done with a dict's items -/
def withK (x : Sv) (st : Store) (k : List (Key × Sv) → Prop) : Prop := match x with
  | .dat (.dic ds) => k (ds.map fun kv => (kv.1, Sv.dat kv.2))
  | .own p => ∃ (j : Nat) (xs : List (Key × Sv)), st[j]? = some (p, Ob.dic xs) ∧ k xs
  | _ => False
theorem withK_rd {K : PySem.W.Frag} {st : Store} {I H : Hp} {x : Sv} {v : V} {k : List (Key × Sv) → Prop} (w : Wd K st I H) (i : IsS K I x v) (h : withK x st k) : ∃ a vs xs, v = .ref a ∧ Rd H a (.dK vs) ∧ Paired (RK K I) xs vs ∧ k xs := by
  cases i with
  | own p =>
    obtain ⟨j, xs, hj, hk⟩ := h
    obtain ⟨o, ho, io⟩ := own_at w hj
    cases io with
    | dic hs => exact ⟨p, _, xs, rfl, .inl ho, hs, hk⟩
  | dat hd =>
    cases hd with
    | dic h1 h2 => exact ⟨_, _, _, rfl, w.sub.rd h1, rk_of h2, h⟩
    | _ => exact h.elim
theorem key_is {K : PySem.W.Frag} {I : Hp} {d : Dt} {v : V} {k : Key} (h : IsD K I d v) (e : keyD d = some k) : v = kV k := by
  cases h <;> first | (cases e; done) | (cases e; rfl)
/-- d[k], there -/
def dDGet (td ty : DE) : DE := fun Δ st ok ex => td Δ st (fun x st1 => ty Δ st1 (fun y st2 => match y with
  | .dat dy => withK x st2 fun xs => ∃ k s, keyD dy = some k ∧ getD xs k = some s ∧ ok s st2
  | _ => False) ex) ex
def dDIn (neg : Bool) (ty td : DE) : DE := fun Δ st ok ex => ty Δ st (fun y st1 => td Δ st1 (fun x st2 => match y with
  | .dat dy => withK x st2 fun xs => ∃ k, keyD dy = some k ∧ ok (.dat (.bl (if neg then !(getD xs k).isSome else (getD xs k).isSome))) st2
  | _ => False) ex) ex
/-- d[k] = v, d of one's own -/
def dDPut (td ty tv : DE) : DS := fun Δ st N => tv Δ st (fun v st1 => td Δ st1 (fun x st2 => ty Δ st2 (fun y st3 => match x, y with
  | .own p, .dat dy => ∃ (j : Nat) (xs : List (Key × Sv)) (k : Key), st3[j]? = some (p, Ob.dic xs) ∧ keyD dy = some k ∧ xs.length < sizeLine ∧ N.nx Δ (st3.set j (p, .dic (putD xs k v)))
  | _, _ => False) (exAt N Δ)) (exAt N Δ)) (exAt N Δ)
/-- {} of one's own -/
def dDNew : DE := fun _ st ok _ => ∀ p, p ∉ keys st → ok (.own p) ((p, .dic []) :: st)
section
variable {K : PySem.W.Frag} {W : WX} {st : Store} {I H : Hp}
theorem low_dget {td ty : DE} : ∀ σ H Q, low K (dDGet td ty) W σ H Q → tDGet (low K td W) (low K ty W) σ H Q := by
  rintro σ H Q ⟨Δ, st, I, ok, ex, wd, sl, h, c, cx⟩
  refine low_go wd sl h (fun x st1 v I1 H1 h1 w1 s1 i1 => ?_) cx
  refine low_go w1 (sl.mono s1.ii) h1 (fun y st2 u I2 H2 h2 w2 s2 i2 => ?_) (cx.go s1)
  cases i2 with
  | own p => exact h2.elim
  | dat hy =>
    obtain ⟨a, vs, xs, rfl, hd, hp, k, s, hk, hg, h2⟩ := withK_rd w2 (i1.mono s2.ii) h2
    obtain ⟨v', hv, iv⟩ := (rk_get hp).1 s hg
    have e := key_is hy hk
    subst e
    exact ⟨a, v', rfl, .inl ⟨vs, k, hd, rfl, by rw [getD_V]; exact hv.symm⟩, (c.go (s1.trans s2)).now w2 h2 iv⟩
theorem low_din {ty td : DE} : ∀ σ H Q, low K (dDIn false ty td) W σ H Q → tDIn (low K ty W) (low K td W) σ H Q := by
  rintro σ H Q ⟨Δ, st, I, ok, ex, wd, sl, h, c, cx⟩
  refine low_go wd sl h (fun y st1 u I1 H1 h1 w1 s1 i1 => ?_) cx
  refine low_go w1 (sl.mono s1.ii) h1 (fun x st2 v I2 H2 h2 w2 s2 i2 => ?_) (cx.go s1)
  cases i1 with
  | own p => exact h2.elim
  | dat hy =>
    obtain ⟨a, vs, xs, rfl, hd, hp, k, hk, h2⟩ := withK_rd w2 i2 h2
    have e := key_is hy hk
    subst e
    have g : (getD vs k).isSome = (getD xs k).isSome := by
      cases q : getD xs k with
      | none => exact congrArg Option.isSome ((rk_get hp).2 q)
      | some s =>
        obtain ⟨v', hv, _⟩ := (rk_get hp).1 s q
        rw [hv]
        rfl
    exact ⟨a, _, rfl, .inl ⟨vs, k, hd, rfl, rfl⟩, by rw [getD_V, g]; exact (c.go (s1.trans s2)).now w2 h2 (.dat (.bl _))⟩
theorem low_dni {ty td : DE} : ∀ σ H Q, low K (dDIn true ty td) W σ H Q → tDNotIn (low K ty W) (low K td W) σ H Q := by
  rintro σ H Q ⟨Δ, st, I, ok, ex, wd, sl, h, c, cx⟩
  refine low_go wd sl h (fun y st1 u I1 H1 h1 w1 s1 i1 => ?_) cx
  refine low_go w1 (sl.mono s1.ii) h1 (fun x st2 v I2 H2 h2 w2 s2 i2 => ?_) (cx.go s1)
  cases i1 with
  | own p => exact h2.elim
  | dat hy =>
    obtain ⟨a, vs, xs, rfl, hd, hp, k, hk, h2⟩ := withK_rd w2 i2 h2
    have e := key_is hy hk
    subst e
    have g : (getD vs k).isSome = (getD xs k).isSome := by
      cases q : getD xs k with
      | none => exact congrArg Option.isSome ((rk_get hp).2 q)
      | some s =>
        obtain ⟨v', hv, _⟩ := (rk_get hp).1 s q
        rw [hv]
        rfl
    exact ⟨a, _, rfl, .inl ⟨vs, k, hd, rfl, rfl⟩, by rw [getD_V, g]; exact (c.go (s1.trans s2)).now w2 h2 (.dat (.bl _))⟩
theorem lowS_dput {td ty tv : DE} : ∀ D σ H, lowS K (dDPut td ty tv) W D σ H → sDPut (low K td W) (low K ty W) (low K tv W) D σ H := by
  rintro D σ H ⟨Δ, st, I, N, wd, sl, h, e⟩
  refine low_go wd sl h (fun v st1 vv I1 H1 h1 w1 s1 i1 => ?_) (cx_of sl e)
  refine low_go w1 (sl.mono s1.ii) h1 (fun o st2 ov I2 H2 h2 w2 s2 i2 => ?_) (cx_of (sl.mono s1.ii) (e.go s1))
  have s12 := s1.trans s2
  refine low_go w2 (sl.mono s12.ii) h2 (fun y st3 yv I3 H3 h3 w3 s3 i3 => ?_) (cx_of (sl.mono s12.ii) (e.go s12))
  have s13 := s12.trans s3
  cases i2 with
  | dat hd => exact (h3 : False).elim
  | own p =>
    cases i3 with
    | own q => exact (h3 : False).elim
    | dat hy =>
      obtain ⟨j, xs, k, hj, hk, hl, hn⟩ := h3
      obtain ⟨u, hu, io⟩ := own_at w3 hj
      cases io with
      | @dic _ us hs =>
        have eq := key_is hy hk
        subst eq
        obtain ⟨w4, s4⟩ := set_own (o' := .dK (putK us k vv)) w3 hj (.dic (rk_putD (i1.mono (s2.ii.trans s3.ii)) hs))
        exact ⟨p, _, rfl, .inl ⟨us, k, hu, rfl, by rw [← paired_len hs]; exact hl, rfl⟩, e.nx _ _ _ _ _ hn w4 (s13.trans s4) (sl.mono s13.ii)⟩
theorem low_dnew : ∀ σ H Q, low K dDNew W σ H Q → tDNewK σ H Q := by
  rintro σ H Q ⟨Δ, st, I, ok, ex, wd, sl, h, c, cx⟩
  intro p hp
  obtain ⟨np, w2, s2⟩ := new_own (o := .dK []) (ob := .dic []) wd hp (.dic .nil)
  exact c _ _ _ _ _ (h p np) w2 s2 (.own p)
end
end DD
namespace DD
open PySem PySem.Spec PyProof.Rows L2
theorem hu1 {k : Nat} {A : Around} (r : Room k A) : A.units + 1 < cLine := by
  have := r.un
  omega
theorem hu64 {k : Nat} {A : Around} (r : Room k A) : A.units + 64 < cLine := by
  have := r.un
  omega
theorem hu65 {k : Nat} {A : Around} (r : Room k A) : A.units + 65 < cLine := by
  have := r.un
  omega
abbrev DO := List Sv → Store → (Option Int → Store → Prop) → EK → Prop
def dNoP : DO := fun _ st ok _ => ok none st
def dPart (t : DE) : DO := fun Δ st ok ex => t Δ st (fun x st1 => match x with
  | .dat (.int i) => ok (some i) st1
  | _ => False) ex
def lowO (K : PySem.W.Frag) (t : DO) (W : WX) : TO := fun σ H Q => ∃ Δ st I ok ex, Wd K st I H ∧ Sl K Δ I σ ∧ t Δ st ok ex ∧ (∀ o st' I' H', ok o st' → Wd K st' I' H' → Stp st I H st' I' H' → Q o H') ∧ ContX K st I H ex fun cls d H' => W cls d σ H'
/-- xs[lo:hi] of any items -/
def cutD {α : Type} (xs : List α) (lo hi : Option Int) : List α := (xs.drop (HT.sIx xs.length 0 lo)).take (HT.sIx xs.length xs.length hi - HT.sIx xs.length 0 lo)
theorem cut_rel {α : Type} {F : α → V → Prop} {xs : List α} {vs : List V} (h : Paired F xs vs) (lo hi : Option Int) : Paired F (cutD xs lo hi) (cutV vs lo hi) := by
  unfold cutD cutV
  rw [paired_len h]
  exact paired_take (paired_drop h _) _
def dSlL (te : DE) (lo hi : DO) : DE := fun Δ st ok ex => te Δ st (fun x st1 => lo Δ st1 (fun l st2 => hi Δ st2 (fun u st3 => withL x st3 fun xs => ∃ ds, AllD (cutD xs l u) ds ∧ ok (.dat (.lst ds)) st3) ex) ex) ex
def dSlT (te : DE) (lo hi : DO) : DE := fun Δ st ok ex => te Δ st (fun x st1 => lo Δ st1 (fun l st2 => hi Δ st2 (fun u st3 => match x with
  | .dat (.tup ds) => ok (.dat (.tup (cutD ds l u))) st3
  | _ => False) ex) ex) ex
section
variable {K : PySem.W.Frag} {W : WX} {st : Store} {I H : Hp}
theorem lowO_none : ∀ σ H Q, lowO K dNoP W σ H Q → tNoPart σ H Q := by
  rintro σ H Q ⟨Δ, st, I, ok, ex, wd, sl, h, c, cx⟩
  exact c _ _ _ _ h wd (Stp.refl _ _ _)
theorem lowO_some {t : DE} : ∀ σ H Q, lowO K (dPart t) W σ H Q → tPart (low K t W) σ H Q := by
  rintro σ H Q ⟨Δ, st, I, ok, ex, wd, sl, h, c, cx⟩
  refine low_go wd sl h (fun x st1 v I1 H1 h1 w1 s1 i1 => ?_) cx
  obtain ⟨n, rfl, h2⟩ := withI_rd (k := fun i => ok (some i) st1) i1 h1
  exact ⟨n, rfl, c _ _ _ _ h2 w1 s1⟩
theorem low_slL {te : DE} {lo hi : DO} : ∀ σ H Q, low K (dSlL te lo hi) W σ H Q → tSl (rSlL K) (low K te W) (lowO K lo W) (lowO K hi W) σ H Q := by
  rintro σ H Q ⟨Δ, st, I, ok, ex, wd, sl, h, c, cx⟩
  refine low_go wd sl h (fun x st1 v I1 H1 h1 w1 s1 i1 => ?_) cx
  refine ⟨Δ, st1, I1, _, ex, w1, sl.mono s1.ii, h1, fun l st2 I2 H2 h2 w2 s2 => ?_, cx.go s1⟩
  have s12 := s1.trans s2
  refine ⟨Δ, st2, I2, _, ex, w2, sl.mono s12.ii, h2, fun u st3 I3 H3 h3 w3 s3 => ?_, cx.go s12⟩
  obtain ⟨a, vs, xs, rfl, hs, hp, ds, ha, h3⟩ := withL_rd w3 (i1.mono (s2.ii.trans s3.ii)) h3
  refine ⟨a, vs, rfl, hs, fun p hp' => ?_⟩
  obtain ⟨w4, s4⟩ := new_known (o := .lst (cutV vs l u)) w3 hp'
  exact c _ _ _ _ _ h3 w4 ((s12.trans s3).trans s4) (.dat (.lst upd_same ((isDs_of ha (cut_rel hp l u)).mono (Ex.new (w3.sub.none hp')))))
theorem isDs_pair : ∀ {ds : List Dt} {vs : List V}, IsDs K I ds vs → Paired (IsD K I) ds vs
  | _, _, .nil => .nil
  | _, _, .cons a b => .cons a (isDs_pair b)
theorem pair_isDs : ∀ {ds : List Dt} {vs : List V}, Paired (IsD K I) ds vs → IsDs K I ds vs
  | _, _, .nil => .nil
  | _, _, .cons a b => .cons a (pair_isDs b)
theorem low_slT {te : DE} {lo hi : DO} : ∀ σ H Q, low K (dSlT te lo hi) W σ H Q → tSl (rSlA K) (low K te W) (lowO K lo W) (lowO K hi W) σ H Q := by
  rintro σ H Q ⟨Δ, st, I, ok, ex, wd, sl, h, c, cx⟩
  refine low_go wd sl h (fun x st1 v I1 H1 h1 w1 s1 i1 => ?_) cx
  refine ⟨Δ, st1, I1, _, ex, w1, sl.mono s1.ii, h1, fun l st2 I2 H2 h2 w2 s2 => ?_, cx.go s1⟩
  have s12 := s1.trans s2
  refine ⟨Δ, st2, I2, _, ex, w2, sl.mono s12.ii, h2, fun u st3 I3 H3 h3 w3 s3 => ?_, cx.go s12⟩
  have s13 := s12.trans s3
  cases i1 with
  | own p => exact (h3 : False).elim
  | dat hd =>
    cases hd with
    | @tup ds vs a ha hb =>
      have a3 := (s2.ii.trans s3.ii) _ _ ha
      have b3 := hb.mono (s2.ii.trans s3.ii)
      have hp := cut_rel (isDs_pair b3) l u
      refine ⟨a, vs, rfl, w3.sub.st (.inl (.inl a3)), fun hw => ?_, fun _ p hp' => ?_⟩
      · have e : cutD ds l u = ds := by
          unfold cutD
          have hl := paired_len (isDs_pair b3)
          rw [hl, hw.1, hw.2, List.drop_zero, Nat.sub_zero, ← hl, List.take_length]
        have h3' : ok (.dat (.tup (cutD ds l u))) st3 := h3
        rw [e] at h3'
        exact (c.go s13).now w3 h3' (.dat (.tup a3 b3))
      · obtain ⟨w4, s4⟩ := new_known (o := .tup (cutV vs l u)) w3 hp'
        exact c _ _ _ _ _ h3 w4 (s13.trans s4) (.dat (.tup upd_same ((pair_isDs hp).mono (Ex.new (w3.sub.none hp')))))
    | _ => exact (h3 : False).elim
def dTruL (te : DE) : DT := fun Δ st ok ex => te Δ st (fun x st1 => withL x st1 fun xs => ok (!xs.isEmpty) st1) ex
theorem emp_eq {α β : Type} {F : α → β → Prop} : ∀ {xs : List α} {ys : List β}, Paired F xs ys → xs.isEmpty = ys.isEmpty
  | _, _, .nil => rfl
  | _, _, .cons _ _ => rfl
theorem lowT_truL {te : DE} : ∀ σ H Q, lowT K (dTruL te) W σ H Q → low K te W σ H (fun x H' => ∃ k, TruV K x H' k ∧ Q k H') := by
  rintro σ H Q ⟨Δ, st, I, ok, ex, wd, sl, h, c, cx⟩
  refine low_go wd sl h (fun x st1 v I1 H1 h1 w1 s1 i1 => ?_) cx
  obtain ⟨a, vs, xs, rfl, hs, hp, h1⟩ := withL_rd w1 i1 h1
  exact ⟨_, .inl ⟨vs, hs, by rw [← emp_eq hp]⟩, c _ _ _ _ h1 w1 s1⟩
def gCatU : G2 := fun x y st ok => match x, y with
  | .dat (.tup xs), .dat (.tup ys) => xs.length + ys.length ≤ sizeLine ∧ ok (.dat (.tup (xs ++ ys))) st
  | .dat (.ktu []), .dat (.tup ys) => ys.length ≤ sizeLine ∧ ok (.dat (.tup ys)) st
  | _, _ => False
theorem lr_catU : LR2 K (rCatA K) gCatU := by
  intro x y st I H ok Q v w wd ix iy h c
  cases ix with
  | own p => exact h.elim
  | dat hx =>
    cases hx with
    | @tup ds vs a ha hb =>
      cases iy with
      | own p => exact h.elim
      | dat hy =>
        cases hy with
        | @tup es us b ha2 hb2 =>
          obtain ⟨hl, h⟩ := h
          have l1 := paired_len (isDs_pair hb)
          have l2 := paired_len (isDs_pair hb2)
          refine ⟨a, b, vs, us, rfl, rfl, wd.sub.st (.inl (.inl ha)), wd.sub.st (.inl (.inl ha2)), by rw [← l1, ← l2]; exact hl, fun e => ?_, fun _ e => ?_, fun _ _ p hp => ?_⟩
          · subst e
            cases ds with
            | nil => exact c.now wd h (.dat (.tup ha2 hb2))
            | cons d ds => cases l1
          · subst e
            cases es with
            | nil =>
              rw [List.append_nil] at h
              exact c.now wd h (.dat (.tup ha hb))
            | cons d es => cases l2
          · obtain ⟨w2, s2⟩ := new_known (o := .tup (vs ++ us)) wd hp
            exact c _ _ _ _ _ h w2 s2 (.dat (.tup upd_same ((pair_isDs (paired_app (isDs_pair hb) (isDs_pair hb2))).mono (Ex.new (wd.sub.none hp)))))
        | _ => exact h.elim
    | @ktu ds vs a ha hb =>
      cases iy with
      | own p => cases ds <;> exact h.elim
      | dat hy =>
        cases hy with
        | @tup es us b ha2 hb2 =>
          cases ds with
          | cons d ds => exact h.elim
          | nil =>
            obtain ⟨hl, h⟩ := h
            cases hb
            have l2 := paired_len (isDs_pair hb2)
            exact ⟨a, b, [], us, rfl, rfl, wd.sub.st ha, wd.sub.st (.inl (.inl ha2)), by rw [← l2]; simpa using hl, fun _ => c.now wd h (.dat (.tup ha2 hb2)), fun e => absurd rfl e, fun e => absurd rfl e⟩
        | _ => cases ds <;> exact h.elim
    | _ => cases iy <;> exact h.elim
/-- the keys of a dict -/
def gListK : GC := fun xs st ok => match xs with
  | [x] => withK x st fun kvs => ok (.dat (.lst (kvs.map fun kv => match kv.1 with | .inl i => .int i | .inr z => .str z))) st
  | _ => False
def rListR : List V → Hp → VK → Prop := fun xs H Q => ∃ p kvs, xs = [.ref p] ∧ Rd H p (.dK kvs) ∧ ∀ q, H q = none → Q (.ref q) (upd H q (.lst (kvs.map fun kv => kV kv.1)))
theorem keys_rel : ∀ {kvs : List (Key × Sv)} {vs : List (Key × V)}, Paired (RK K I) kvs vs → ∀ J, IsDs K J (kvs.map fun kv => match kv.1 with | .inl i => .int i | .inr z => .str z) (vs.map fun kv => kV kv.1)
  | _, _, .nil, _ => .nil
  | _, _, .cons (a := (k, s)) (b := (k', v)) r t, J => by
    obtain ⟨e, _⟩ := r
    have e : k = k' := e
    subst e
    refine .cons ?_ (keys_rel t J)
    cases k with
    | inl i => exact .int i
    | inr z => exact .str z
theorem lc_listK : LRC (K := K) rListR gListK := by
  intro xs st I H ok Q vs wd ix h c
  unfold gListK at h
  split at h
  · obtain ⟨v, rfl, i⟩ := one_of rfl ix
    obtain ⟨a, us, kvs, rfl, hd, hp, h⟩ := withK_rd wd i h
    refine ⟨a, us, rfl, hd, fun q hq => ?_⟩
    obtain ⟨w2, s2⟩ := new_known (o := .lst (us.map fun kv => kV kv.1)) wd hq
    exact c _ _ _ _ _ h w2 s2 (.dat (.lst upd_same (keys_rel hp _)))
  · exact h.elim
end
theorem call_listR {X : Cx} (hc : X.calm = true) : CallR X (.type "list") rListR := by
  intro pins s σ H xs us Q I r h
  obtain ⟨p, kvs, e, hk, q⟩ := h
  subst e
  obtain ⟨u, eu, rx⟩ := vals1 r
  subst eu
  have eu : u = Value.ref p := rx
  subst eu
  obtain ⟨z, lo, vs, rk, hd⟩ : ObjOk X.prog X.w H s.heap p (.dK kvs) := hk.ok I.hok
  obtain ⟨ep, hat⟩ := hd.dictAt
  have hl : kvs.length = vs.length := Paired.length rk
  apply PySem.W.kdl_call (PySem.W.kdl_dict (knd := mixKind X.prog X.w) (kvs := vs) (ep := ep) lo) (I.ok.hd hc) hat (by rw [← hl]; exact z)
  intro h' tk acc c' keep new items
  have rel : Vals (kvs.map fun kv => kV kv.1) acc.toList := by
    have e0 : acc.toList.length = kvs.length := by rw [Array.length_toList, items.1, hl]
    apply vals_of_at (by rw [List.length_map]; exact e0.symm)
    intro j x w h1 h2
    obtain ⟨k, y, hky, hi⟩ := items.2 j w (by rw [← Array.getElem?_toList]; exact h2)
    have e1 : (kvs.map (·.1))[j]? = some k := by rw [KV.keys rk, List.getElem?_map, hky]; rfl
    have e2 : (kvs.map fun kv => kV kv.1)[j]? = some (kV k) := by
      have e3 : (kvs.map fun kv => kV kv.1) = (kvs.map (·.1)).map kV := by rw [List.map_map]; rfl
      rw [e3, List.getElem?_map, e1]
      rfl
    rw [e2] at h1
    cases h1
    exact keyIs_rel hi
  exact ⟨.ref s.heap.objs.size, _, I.laid keep (Nat.le_refl _) (show ObjOk X.prog X.w _ _ _ (.lst (kvs.map fun kv => kV kv.1)) from ⟨by rw [List.length_map]; exact z, acc.toList, c', rel, by rw [Array.toArray_toList]; exact new⟩), rfl, q _ (I.hok.fresh (Nat.le_refl _))⟩
section
variable {X : Cx} {W : WX} {a b c e o : Expr} {es : List Expr} {ta tb tc te to : DE} {pos p p2 apos : Pos} {s : Stmt} {ss : List Stmt} {t u : DS}
theorem tB_of {td : DE} {tr : TE} (h : ∀ σ H Q, low X.K td W σ H Q → tr σ H Q) : ∀ σ H Q, lowT X.K (dTest td) W σ H Q → tB tr σ H Q := fun σ H Q q => by
  obtain ⟨Δ, st, I, ok, ex, wd, sl, q, c, cx⟩ := q
  refine h _ _ _ ⟨Δ, st, I, _, ex, wd, sl, q, fun s st' v I' H' h' w' s' i' => ?_, cx⟩
  cases i' with
  | own p => exact h'.elim
  | dat hd =>
    cases hd with
    | bl k => exact ⟨k, rfl, c _ _ _ _ h' w' s'⟩
    | _ => exact h'.elim
theorem ddget (hu : X.A.units + 1 < cLine) (ho : PEd X W o to) (hi : PEd X W e te) (hs : NoSl e := by exact fun _ _ => rfl) : PEd X W (.Subscript o e pos) (dDGet to te) := PE.imp (pe_dget hu ho hi hs) low_dget
theorem ddIn (hu : X.A.units + 1 < cLine) (hi : PEd X W e te) (ho : PEd X W o to) (h1 : behindInMarks .In o = false := by with_unfolding_all rfl) : PEd X W (.Compare e [.In] [o] pos) (dDIn false te to) := PE.imp (pe_cmp (pc_din hu hi ho) h1) low_din
theorem tdNi (hu : X.A.units + 1 < cLine) (hi : PEd X W e te) (ho : PEd X W o to) (h1 : behindInMarks .NotIn o = false := by with_unfolding_all rfl) : PTd X W (.Compare e [.NotIn] [o] pos) (dTest (dDIn true te to)) := PT.imp (pt_cmp (pc_dnotin hu hi ho) h1) (tB_of low_dni)
theorem sdput {p' : Pos} {tv : DE} (hu : X.A.units + 1 < cLine) (hv : PEd X W a tv) (ho : PEd X W o to) (hi : PEd X W e te) (hs : swapsWith a (some (.Subscript o e p')) pos.line X.env = pure false := by rfl) : PSd X W (.Assign [.Subscript o e p'] a pos) (dDPut to te tv) := PS.imp (ps_dput hu ho hi hv hs) lowS_dput
theorem ddnew : PEd X W (.Dict [] [] pos) dDNew := PE.imp pe_dnewK low_dnew
theorem tsIn {k : Nat} (hr : Room k X.A) (ha : PEd X W a ta) (hb : PEd X W b tb) (hm : behindInMarks .In b = false := by with_unfolding_all rfl) : PTd X W (.Compare a [.In] [b] pos) (dTest (dOp (gInP false) ta tb)) := tcmp (op_inP (hu65 hr)) lr_inP ha hb hm
theorem tsNi {k : Nat} (hr : Room k X.A) (ha : PEd X W a ta) (hb : PEd X W b tb) (hm : behindInMarks .NotIn b = false := by with_unfolding_all rfl) : PTd X W (.Compare a [.NotIn] [b] pos) (dTest (dOp (gInP true) ta tb)) := tcmp (op_niP (hu65 hr)) lr_inP ha hb hm
abbrev POd (X : Cx) (W : WX) (e : Option Expr) (t : DO) : Prop := PO X e (lowO X.K t W)
theorem PO.imp {e : Option Expr} {t t' : TO} (h : PO X e t) (i : ∀ σ H Q, t' σ H Q → t σ H Q) : PO X e t' := ⟨fun pins s σ H Q J q => h.run pins s σ H Q J (i σ H Q q)⟩
theorem onone : POd X W none dNoP := PO.imp po_none lowO_none
theorem osome (h : PEd X W e te) : POd X W (some e) (dPart te) := PO.imp (po_some h) lowO_some
theorem dslL {l r : Option Expr} {tl tr : DO} (h : PEd X W e te) (hl : POd X W l tl) (hr : POd X W r tr) : PEd X W (.Subscript e (.Slice l r none p2) pos) (dSlL te tl tr) := PE.imp (pe_slice sl_list h hl hr) low_slL
theorem dslT {l r : Option Expr} {tl tr : DO} (h : PEd X W e te) (hl : POd X W l tl) (hr : POd X W r tr) : PEd X W (.Subscript e (.Slice l r none p2) pos) (dSlT te tl tr) := PE.imp (pe_slice sl_tupA h hl hr) low_slT
theorem ttruL (h : PEd X W e te) (he : ∀ whole, isTrue e X.env whole = (do let v ← whole; standAt e.pos; holding [v] (truthy v)) := by intro _; rfl) : PTd X W e (dTruL te) := PT.imp (pt_truth h he) lowT_truL
theorem sapp (ho : PEd X W o to) (he : PEd X W e te) (hbase : attributeBase o "append" X.env (eval o X.env) = eval o X.env := by rfl)
    (hfew : ((backTo pos (starEach [e] X.env)).all (fun x => !x.1) && (backToKw pos (keywordEach [] X.env)).all (fun x => x.1.isSome)
      && decide (([e] : List Expr).length + ([] : List Keyword).length + (if ([] : List Keyword).isEmpty then 0 else 1) < 30)) = true := by rfl)
    (hline : (apos.endLine == pos.line) = true := by rfl) (hs : starEach [e] X.env = (false, eval e X.env) :: starEach [] X.env := by rfl) (hplain : (backTo pos (starEach [] X.env)).any (·.1) = false := by rfl)
    (hsw : swapsWith (.Call (.Attribute o "append" apos) [e] [] pos) none p2.line X.env = pure false := by rfl) : PSd X W (.Expr (.Call (.Attribute o "append" apos) [e] [] pos) p2) (dApp to te) :=
  PS.imp (ps_expr (pe_bm PySem.F.plainAttrs_list PySem.F.slot_list_append PySem.F.type_list_append mt_append ho (pa_cons he pa_nil hs) hbase hfew hline hs hplain) hsw) lowS_app
theorem sdrop (he : PEd X W e te) (hs : swapsWith e none pos.line X.env = pure false := by rfl) : PSd X W (.Expr e pos) (dDrop te) := PS.imp (ps_expr he hs) lowS_drop
theorem sbreak : PSd X W (.Break pos) dBreak := PS.imp ps_break lowS_break
end
end DD
namespace DD
open PySem PySem.Spec PyProof.Rows L2
/-- the class's facts for != -/
structure NeC (K : PySem.W.Frag) (C f : Addr) : Prop where
  cls : ∃ nm q N bs hdct sn sub ab col dd k0 k1 k2 k3 k5 newId, K.lookup C = some (excClassObj nm q C N bs [.type "object"] hdct sn sub ab col dd k0 k1 k2 k3 k5 newId) ∧ PySem.W.nsOkIn K N = true ∧ PySem.W.nsIn K N "__eq__" = some (some (.ref f)) ∧ PySem.W.nsIn K N "__ne__" = some none
  fn : ∃ of : Obj, K.lookup f = some of ∧ of.cls = .type "function"
end DD
namespace DD
open PySem PySem.Spec PyProof.Rows L2
def dDeadS : DS := fun _ _ _ => False
theorem sdead {X : Cx} {W : WX} {e : Stmt} : PSd X W e dDeadS := ⟨fun pins s σ H Q I h => by obtain ⟨_, _, _, _, _, _, z, _⟩ := h; exact z.elim⟩
abbrev Cl := Value × Option Nat × (Addr → Value → Option Addr → TS)
end DD
namespace DD
open PySem PySem.Spec PyProof.Rows L2
def dOr2 (t u : DE) : DE := fun Δ st ok ex => t Δ st ok ex ∨ u Δ st ok ex
theorem deither {X : Cx} {W : WX} {e : Expr} {t u : DE} (h1 : PEd X W e t) (h2 : PEd X W e u) : PEd X W e (dOr2 t u) := ⟨fun pins s σ H Q I h => by
  obtain ⟨Δ, st, I0, ok, ex, wd, sl, h | h, c, cx⟩ := h
  · exact h1.run pins s σ H Q I ⟨Δ, st, I0, ok, ex, wd, sl, h, c, cx⟩
  · exact h2.run pins s σ H Q I ⟨Δ, st, I0, ok, ex, wd, sl, h, c, cx⟩⟩
def dIsi2 (K : PySem.W.Frag) (k1 k2 : Kd) (te : DE) : DE := fun Δ st ok ex => te Δ st (fun s st1 => match s with
  | .dat d => match kdD d with
    | some j => ok (.dat (.bl (j.isK k1 || j.isK k2))) st1
    | none => False
  | _ => False) ex
theorem kit_two {K : PySem.W.Frag} (j k1 k2 : Kd) : PySem.W.kitAny K (.type j.nm) [.type k1.nm, .type k2.nm] = some (j.isK k1 || j.isK k2) := by
  refine kitAny_cons (kit_ty (kd_ok j k1)) (fun h => ?_) (fun h => by rw [h]; rfl)
  refine kitAny_cons (kit_ty (kd_ok j k2)) (fun h2 => ?_) (fun h2 => by rw [h2, Bool.or_true])
  rw [h, h2]
  rfl
theorem low_isi2 {K : PySem.W.Frag} {W : WX} {k1 k2 : Kd} {te : DE} : ∀ σ H Q, low K (dIsi2 K k1 k2 te) W σ H Q → tCB (rIsiT K) (tCons (low K te W) (tCons (tTup (tCons (tC (.ty k1.nm)) (tCons (tC (.ty k2.nm)) tNil))) tNil)) σ H Q := by
  rintro σ H Q ⟨Δ, st, I, ok, ex, wd, sl, h, c, cx⟩
  refine low_go wd sl h (fun x st1 v I1 H1 h1 w1 s1 i1 => ?_) cx
  cases i1 with
  | own p => exact h1.elim
  | @dat d _ hd =>
    cases e : kdD d with
    | none => simp only [e] at h1
    | some j =>
      simp only [e] at h1
      refine ⟨by show 2 ≤ sizeLine; decide, fun p hp => ?_⟩
      obtain ⟨w2, s2⟩ := new_known (o := .tup [.ty k1.nm, .ty k2.nm]) w1 hp
      exact ⟨v, p, _, _, _, _, rfl, upd_same, .cons (.ty _) (.cons (.ty _) .nil), ty_of w2 (hd.mono (Ex.new (w1.sub.none hp))) e, kit_two j k1 k2, c _ _ _ _ _ h1 w2 (s1.trans s2) (.dat (.bl _))⟩
theorem disi2 {X : Cx} {W : WX} (K : PySem.W.Frag) {k1 k2 : Kd} {x1 x2 : Str} {e : Expr} {te : DE} {p p1 p2 p3 pos : Pos} {n : Nat} (hm : X.mg "isinstance" = none) (hx1 : X.mg x1 = none) (hx2 : X.mg x2 = none) (hv1 : KdB x1 k1) (hv2 : KdB x2 k2) (he : PEd X W e te) (hg : Gl X "isinstance" := by rfl) (hg1 : Gl X x1 := by rfl) (hg2 : Gl X x2 := by rfl)
    (hn1 : x1 ≠ "__name__" := by decide) (hd1 : (x1 == ("__debug__" : Str)) = false := by decide) (hn2 : x2 ≠ "__name__" := by decide) (hd2 : (x2 == ("__debug__" : Str)) = false := by decide)
    (h1 : starEach [e, .Tuple [.Name x1 p1, .Name x2 p2] n p3] X.env = (false, eval e X.env) :: starEach [.Tuple [.Name x1 p1, .Name x2 p2] n p3] X.env := by rfl) (hpl : (backTo pos (starEach [.Tuple [.Name x1 p1, .Name x2 p2] n p3] X.env)).any (·.1) = false := by rfl) (hK : X.K = K := by rfl) :
    PEd X W (.Call (.Name "isinstance" p) [e, .Tuple [.Name x1 p1, .Name x2 p2] n p3] [] pos) (dIsi2 K k1 k2 te) := by
  subst hK
  exact PE.imp (pe_callB call_isiT hg hm PyProof.Rows.boot_isinstance (pa_cons he (pa_cons (pe_tup (pa_cons (pe_bltn (v := .ty k1.nm) hg1 hx1 hv1.v rfl hn1 hd1) (pa_cons (pe_bltn (v := .ty k2.nm) hg2 hx2 hv2.v rfl hn2 hd2) pa_nil))) pa_nil) h1) (he := h1) (hpl := hpl)) low_isi2
theorem fn_none {P : Program} {w : World} {K : PySem.W.Frag} {mg : Str → Option Value} {base : Heap} {f : Addr} {fd : FuncData} {ps : List Str} {ct : Ct} (h : ∀ ss st ok ex, ct ss st ok ex → False) : FnOk P w K mg base (L2.CX P w) 0 f fd ps (lowF K ct) where
  len := fun vs H Q E ⟨_, _, _, _, _, _, _, z, _⟩ => (h _ _ _ _ z).elim
  run := fun A outer s H args us vs Q E _ _ _ _ ⟨_, _, _, _, _, _, _, z, _⟩ => (h _ _ _ _ z).elim
end DD
namespace DD
open PySem PySem.Spec PyProof.Rows L2
/-- a class below ValueError without an __init__ of its own -/
abbrev ValX (K : PySem.W.Frag) (C : Addr) : Prop := PySem.W.excIn K C [.type "ValueError", .type "Exception", .type "BaseException", .type "object"] "ValueError.__new__" = true
/-- what is asked of booleans -/
theorem no_d {α : Type} {a : α} {i : Decidable (a = a)} {Q : Prop} (h : @decide (a = a) i = false) : Q := absurd rfl (of_decide_eq_false h)
theorem no_nd {α : Type} {a : α} {i : Decidable (a = a)} {Q : Prop} (h : (!(@decide (a = a) i)) = true) : Q := no_d (i := i) (by cases e : @decide (a = a) i <;> simp_all)
theorem lr_pow {K} : LR2 K (rI CPow fun i j => .int (i ^ j.toNat)) (gI CPow fun i j => .int (i ^ j.toNat)) := lr_I fun _ _ _ _ => .int _
def dOrT2 (t u : DT) : DT := fun Δ st ok ex => t Δ st ok ex ∨ u Δ st ok ex
theorem teither {X : Cx} {W : WX} {e : Expr} {t u : DT} (h1 : PTd X W e t) (h2 : PTd X W e u) : PTd X W e (dOrT2 t u) := ⟨fun pins s σ H Q I h => by
  obtain ⟨Δ, st, I0, ok, ex, wd, sl, h | h, c, cx⟩ := h
  · exact h1.run pins s σ H Q I ⟨Δ, st, I0, ok, ex, wd, sl, h, c, cx⟩
  · exact h2.run pins s σ H Q I ⟨Δ, st, I0, ok, ex, wd, sl, h, c, cx⟩⟩
def dPub (t : DE) : DE := fun Δ st ok ex => t Δ st (fun s st1 => ∃ s' st2, Fin s st1 s' st2 ∧ ok s' st2) ex
theorem dpub {X : Cx} {W : WX} {e : Expr} {t : DE} (h : PEd X W e t) : PEd X W e (dPub t) := PE.imp h fun σ H Q q => by
  obtain ⟨Δ, st, I, ok, ex, wd, sl, h, c, cx⟩ := q
  refine low_go wd sl h (fun x st1 v I1 H1 h1 w1 s1 i1 => ?_) cx
  obtain ⟨s', st2, f, h2⟩ := h1
  obtain ⟨I2, w2, s2, i2⟩ := fin_ok w1 s1 i1 f
  exact c _ _ _ _ _ h2 w2 s2 i2
def dPubS (i : Nat) (t : DS) : DS := fun Δ st N => ∃ s s' st2, Δ[i]? = some s ∧ s ≠ .un ∧ Fin s st s' st2 ∧ t (Δ.set i s') st2 N
theorem spub {X : Cx} {W : WX} {s : Stmt} {t : DS} (i : Nat) (h : PSd X W s t) : PSd X W s (dPubS i t) := PS.imp h fun D σ H q => by
  obtain ⟨Δ, st, I, N, wd, sl, ⟨s, s', st2, hi, hu, f, h2⟩, e⟩ := q
  rcases sl.2 i s hi with z | ⟨v, hv, iv⟩
  · exact absurd z hu
  · obtain ⟨I2, w2, s2, i2⟩ := fin_ok wd (Stp.refl _ _ _) iv f
    have sl2 := (sl.mono s2.ii).set (i := i) i2
    have es : σ.set i (some v) = σ := by
      obtain ⟨hl, e⟩ := List.getElem?_eq_some_iff.mp hv
      rw [← e, List.set_getElem_self]
    rw [es] at sl2
    exact lowS_go w2 sl2 h2 (e.go s2)
def dPar (i j : Nat) (t : DA) : DS := fun Δ st N => t Δ st (fun xs st1 => match xs with
  | [x, y] => N.nx ((Δ.set i x).set j y) st1
  | _ => False) (exAt N Δ)
def dPar3 (i j l : Nat) (t : DA) : DS := fun Δ st N => t Δ st (fun xs st1 => match xs with
  | [x, y, z] => N.nx (((Δ.set i x).set j y).set l z) st1
  | _ => False) (exAt N Δ)
theorem lowS_par {K : PySem.W.Frag} {W : WX} {i j : Nat} {t : DA} : ∀ D σ H, lowS K (dPar i j t) W D σ H → tPar i j (lowA K t W) D σ H := by
  rintro D σ H ⟨Δ, st, I, N, wd, sl, h, e⟩
  refine lowA_go wd sl h (fun xs st1 vs I1 H1 h1 w1 s1 i1 => ?_) (cx_of sl e)
  split at h1
  · cases i1 with
    | cons a i1 =>
      cases i1 with
      | cons b i1 =>
        cases i1
        exact ⟨_, _, rfl, e.nx _ _ _ _ _ h1 w1 s1 (((sl.mono s1.ii).set a).set b)⟩
  · exact h1.elim
theorem lowS_par3 {K : PySem.W.Frag} {W : WX} {i j l : Nat} {t : DA} : ∀ D σ H, lowS K (dPar3 i j l t) W D σ H → tPar3 i j l (lowA K t W) D σ H := by
  rintro D σ H ⟨Δ, st, I, N, wd, sl, h, e⟩
  refine lowA_go wd sl h (fun xs st1 vs I1 H1 h1 w1 s1 i1 => ?_) (cx_of sl e)
  split at h1
  · cases i1 with
    | cons a i1 =>
      cases i1 with
      | cons b i1 =>
        cases i1 with
        | cons c i1 =>
          cases i1
          exact ⟨_, _, _, rfl, e.nx _ _ _ _ _ h1 w1 s1 ((((sl.mono s1.ii).set a).set b).set c)⟩
  · exact h1.elim
theorem spar {X : Cx} {W : WX} {x y : Str} {a b : Expr} {t : DA} {px py pt pos pt2 : Pos} {kt k2 : Nat} (i j : Nat) (hN : X.N.Nodup) (ha : PAd X W [a, b] t) (hc : X.calm = true := by rfl) (hi : X.N[i]? = some x := by rfl) (hj : X.N[j]? = some y := by rfl) (hij : i ≠ j := by decide)
    (hx : X.env.scope.names.lookup x = some .local := by rfl) (hy : X.env.scope.names.lookup y = some .local := by rfl) (hw : swappedStores [.Tuple [.Name x px, .Name y py] kt pt] (.Tuple [a, b] k2 pt2) X.env = pure (some [x, y]) := by rfl)
    (hs : swapsWithSole [.Tuple [.Name x px, .Name y py] kt pt] (.Tuple [a, b] k2 pt2) pos.line X.env = pure false := by rfl) : PSd X W (.Assign [.Tuple [.Name x px, .Name y py] kt pt] (.Tuple [a, b] k2 pt2) pos) (dPar i j t) :=
  PS.imp (ps_par hc hN hi hj hij hx hy ha hw hs) lowS_par
theorem spar3 {X : Cx} {W : WX} {x y z : Str} {a b c : Expr} {t : DA} {px py pz pt pos pt2 : Pos} {kt k2 : Nat} (i j l : Nat) (hN : X.N.Nodup) (ha : PAd X W [a, b, c] t) (hc : X.calm = true := by rfl) (hi : X.N[i]? = some x := by rfl) (hj : X.N[j]? = some y := by rfl) (hl : X.N[l]? = some z := by rfl) (hij : i ≠ j := by decide) (hil : i ≠ l := by decide) (hjl : j ≠ l := by decide)
    (hx : X.env.scope.names.lookup x = some .local := by rfl) (hy : X.env.scope.names.lookup y = some .local := by rfl) (hz : X.env.scope.names.lookup z = some .local := by rfl)
    (hw : swappedStores [.Tuple [.Name x px, .Name y py, .Name z pz] kt pt] (.Tuple [a, b, c] k2 pt2) X.env = pure (some [x, y, z]) := by rfl)
    (hs : swapsWithSole [.Tuple [.Name x px, .Name y py, .Name z pz] kt pt] (.Tuple [a, b, c] k2 pt2) pos.line X.env = pure false := by rfl) : PSd X W (.Assign [.Tuple [.Name x px, .Name y py, .Name z pz] kt pt] (.Tuple [a, b, c] k2 pt2) pos) (dPar3 i j l t) :=
  PS.imp (ps_par3 hc hN hi hj hl hij hil hjl hx hy hz ha hw hs) lowS_par3
end DD
namespace DD
open PySem PySem.Spec PyProof.Rows L2
def NoFrz (X : Cx) (d : Addr) : Prop := ∀ o' u', X.H_0 d ≠ some (.frz o' u')
def Lk (X : Cx) (H : Hp) (P : Hp → Prop) : Prop := P H ∨ ∃ d od u, H d = some (.frz od u) ∧ NoFrz X d ∧ P (upd H d u)
def endsU (X : Cx) (D : Ends) : Ends := { nx := fun σ H => Lk X H (D.nx σ), rt := fun v H => Lk X H (D.rt v), bk := fun σ H => Lk X H (D.bk σ), ct := fun σ H => Lk X H (D.ct σ) }
def wxU (X : Cx) (W : WX) : WX := fun cls d σ H => Lk X H (W cls d σ)
theorem Lk.at_ {X : Cx} {pins : List (Addr × Obj)} {σ : L2.St} {H : Hp} {s : Shared} {P : Hp → Prop} (I : L2.Inv X pins σ H s) (h : Lk X H P) : ∃ H', L2.Inv X pins σ H' s ∧ P H' ∧ ∀ a, H a = none → H' a = none := by
  rcases h with h | ⟨d, od, u, e, n, h⟩
  · exact ⟨H, I, h, fun _ q => q⟩
  · exact ⟨_, I.unlock e n, h, fun a q => by rw [upd_ne (fun z => by rw [z, e] at q; cases q)]; exact q⟩
theorem ps_unl {X : Cx} {st : Stmt} {t : TS} (h : PS X st t) : PS X st (fun D σ H => t (endsU X D) σ H) := by
  refine ⟨fun pins s σ H D I q => thn (h.run pins s σ H _ I q) fun f s1 r => ?_⟩
  cases f with
  | next =>
    obtain ⟨σ', H', J, r⟩ := r
    obtain ⟨H2, J2, r2, _⟩ := r.at_ J
    exact ⟨σ', H2, J2, r2⟩
  | brk =>
    obtain ⟨σ', H', J, r⟩ := r
    obtain ⟨H2, J2, r2, _⟩ := r.at_ J
    exact ⟨σ', H2, J2, r2⟩
  | cont =>
    obtain ⟨σ', H', J, r⟩ := r
    obtain ⟨H2, J2, r2, _⟩ := r.at_ J
    exact ⟨σ', H2, J2, r2⟩
  | ret v =>
    obtain ⟨x, σ', H', J, rv, r⟩ := r
    obtain ⟨H2, J2, r2, _⟩ := r.at_ J
    exact ⟨x, σ', H2, J2, rv, r2⟩
theorem pe_unl {X : Cx} {e : Expr} {t : TE} (h : PE X e t) : PE X e (fun σ H Q => t σ H fun v H' => Lk X H' (Q v)) :=
  ⟨fun pins s σ H Q I q => thn (h.run pins s σ H _ I q) fun v s1 ⟨x, H1, J, r, z⟩ => by
    obtain ⟨H2, J2, r2, _⟩ := z.at_ J
    exact ⟨x, H2, J2, r, r2⟩⟩
theorem takes_unl {X : Cx} {W : WX} (tk : Takes X W) : Takes X (wxU X W) := by
  rintro u s' ⟨a, B, sI, pins, σ, H, cls, d, e, I, nb, up, sky, na, os, ag, w⟩
  obtain ⟨H2, J2, r2, n2⟩ := w.at_ I
  exact tk _ _ ⟨a, B, sI, pins, σ, H2, cls, d, e, J2, nb, up, sky, n2 a na, os, ag, r2⟩
def lockE (X : Cx) (te : TE) : TE := fun σ H Q => te σ H fun x H1 => Q x H1 ∨ ∃ d u, H1 d = some u ∧ Mut (some u) ∧ ∀ od, NoFrz X d → Q x (upd H1 d (.frz od u))
theorem pe_lockE {X : Cx} {e : Expr} {t : TE} (h : PE X e t) : PE X e (lockE X t) :=
  ⟨fun pins s σ H Q I q => thn (h.run pins s σ H _ I q) fun v s1 ⟨x, H1, J, r, z⟩ => by
    rcases z with z | ⟨d, u, hd, mu, z⟩
    · exact ⟨x, H1, J, r, z⟩
    · obtain ⟨od, J2⟩ := J.lock hd mu
      exact ⟨x, _, J2, r, z od (J.nofrz hd mu)⟩⟩
section
variable {K : PySem.W.Frag} {st st' : Store} {I I' H H' : Hp}
theorem lock_w {a : Addr} {od : Obj} {u : HO} (w : Wd K st I H) (hu : (∃ k, u = .dK k) ∨ ∃ k, u = .dT k) (hI : I a = some u) (hH : H a = some u) : Wd K st I (upd H a (.frz od u)) := by
  refine ⟨fun b o h => ?_, fun p ob hp => ?_, w.nd⟩
  · by_cases e : b = a
    · subst e
      rw [hI] at h
      cases h
      exact .inr ⟨hu, od, upd_same⟩
    · rw [upd_ne e]
      exact w.sub b o h
  · obtain ⟨h1, o, h2, h3⟩ := w.own p ob hp
    have ne : p ≠ a := fun z => by rw [z, hI] at h1; cases h1
    exact ⟨h1, o, by rw [upd_ne ne]; exact h2, h3⟩
theorem notkey {a : Addr} {u : HO} (w : Wd K st I H) (hI : I a = some u) : a ∉ keys st := fun m => by
  obtain ⟨⟨p, ob⟩, h1, h2⟩ := List.mem_map.mp m
  have h2 : p = a := h2
  subst h2
  rw [(w.own p ob h1).1] at hI
  cases hI
theorem unlock_w {a : Addr} {od : Obj} {u : HO} (w : Wd K st I H) (hI : I a = some u) (hH : H a = some u) (w' : Wd K st' I' H') (s : Stp st I (upd H a (.frz od u)) st' I' H') :
    H' a = some (.frz od u) ∧ Wd K st' I' (upd H' a u) ∧ Stp st I H st' I' (upd H' a u) := by
  have hI' := s.ii a u hI
  refine ⟨s.hh a _ (notkey w hI) upd_same, ⟨fun b o h => ?_, fun p ob hp => ?_, w'.nd⟩, ⟨s.ii, fun b o hb h => ?_, fun b h => ?_, fun p h => ?_⟩⟩
  · by_cases e : b = a
    · subst e
      rw [hI'] at h
      cases h
      exact .inl upd_same
    · rw [upd_ne e]
      exact w'.sub b o h
  · obtain ⟨h1, o, h2, h3⟩ := w'.own p ob hp
    have ne : p ≠ a := fun z => by rw [z, hI'] at h1; cases h1
    exact ⟨h1, o, by rw [upd_ne ne]; exact h2, h3⟩
  · by_cases e : b = a
    · subst e
      rw [hH] at h
      cases h
      exact upd_same
    · rw [upd_ne e]
      exact s.hh b o hb (by rw [upd_ne e]; exact h)
  · rcases s.nw b h with q | q | q | ⟨vs, q⟩
    · exact .inl q
    · by_cases e : b = a
      · subst e
        rw [upd_same] at q
        cases q
      · rw [upd_ne e] at q
        exact .inr (.inl q)
    · exact .inr (.inr (.inl q))
    · by_cases e : b = a
      · subst e
        rw [upd_same] at q
        cases q
      · rw [upd_ne e] at q
        exact .inr (.inr (.inr ⟨vs, q⟩))
  · rcases s.ks p h with q | q
    · exact .inl q
    · by_cases e : p = a
      · subst e
        rw [upd_same] at q
        cases q
      · rw [upd_ne e] at q
        exact .inr q
theorem ends_U {X : Cx} {N : DN} {W : WX} {D : Ends} (e : Ends_ K st I H N W D) : Ends_ K st I H N (wxU X W) (endsU X D) :=
  ⟨fun Δ st' σ' I' H' h w s l => .inl (e.nx _ _ _ _ _ h w s l), fun x st' v I' H' h w s i => .inl (e.rt _ _ _ _ _ h w s i), fun Δ st' σ' I' H' h w s l => .inl (e.bk _ _ _ _ _ h w s l), fun Δ st' σ' I' H' h w s l => .inl (e.ct _ _ _ _ _ h w s l), fun x Δ st' cls d σ' I' H' h w s l xi => .inl (e.ex _ _ _ _ _ _ _ _ h w s l xi)⟩
theorem ends_L {X : Cx} {N : DN} {W : WX} {D : Ends} {a : Addr} {od : Obj} {u : HO} (e : Ends_ K st I H N W D) (w : Wd K st I H) (hI : I a = some u) (hH : H a = some u) (nf : NoFrz X a) : Ends_ K st I (upd H a (.frz od u)) N (wxU X W) (endsU X D) := by
  refine ⟨fun Δ st' σ' I' H' h w' s l => ?_, fun x st' v I' H' h w' s i => ?_, fun Δ st' σ' I' H' h w' s l => ?_, fun Δ st' σ' I' H' h w' s l => ?_, fun x Δ st' cls d σ' I' H' h w' s l xi => ?_⟩
  all_goals obtain ⟨z, w2, s2⟩ := unlock_w w hI hH w' s
  · exact .inr ⟨a, od, u, z, nf, e.nx _ _ _ _ _ h w2 s2 l⟩
  · exact .inr ⟨a, od, u, z, nf, e.rt _ _ _ _ _ h w2 s2 i⟩
  · exact .inr ⟨a, od, u, z, nf, e.bk _ _ _ _ _ h w2 s2 l⟩
  · exact .inr ⟨a, od, u, z, nf, e.ct _ _ _ _ _ h w2 s2 l⟩
  · exact .inr ⟨a, od, u, z, nf, e.ex _ _ _ _ _ _ _ _ h w2 s2 l xi⟩
theorem cont_U {X : Cx} {ok : OK} {Q : VK} (c : Cont K st I H ok Q) : Cont K st I H ok fun v H' => Lk X H' (Q v) := fun x st' v I' H' h w s i => .inl (c _ _ _ _ _ h w s i)
theorem cont_L {X : Cx} {ok : OK} {Q : VK} {a : Addr} {od : Obj} {u : HO} (c : Cont K st I H ok Q) (w : Wd K st I H) (hI : I a = some u) (hH : H a = some u) (nf : NoFrz X a) : Cont K st I (upd H a (.frz od u)) ok fun v H' => Lk X H' (Q v) := fun x st' v I' H' h w' s i => by
  obtain ⟨z, w2, s2⟩ := unlock_w w hI hH w' s
  exact .inr ⟨a, od, u, z, nf, c _ _ _ _ _ h w2 s2 i⟩
def dKey : Key → Dt
  | .inl i => .int i
  | .inr x => .str x
def keysD (ds : List (Key × Dt)) : List Sv := ds.map fun p => .dat (dKey p.1)
theorem isDk_len {I : Hp} : ∀ {ds : List (Key × Dt)} {vs : List (Key × V)}, IsDk K I ds vs → ds.length = vs.length
  | _, _, .nil => rfl
  | _, _, .cons _ r => congrArg Nat.succ (isDk_len r)
theorem isDk_at {I : Hp} : ∀ {ds : List (Key × Dt)} {vs : List (Key × V)} {i : Nat} {k : Key} {v : V}, IsDk K I ds vs → vs[i]? = some (k, v) → ∃ d, ds[i]? = some (k, d) ∧ IsD K I d v
  | _, _, 0, _, _, .cons h _, e => by
    cases e
    exact ⟨_, rfl, h⟩
  | _, _, i + 1, _, _, .cons _ r, e => by
    obtain ⟨d, h1, h2⟩ := isDk_at (i := i) r (by simpa using e)
    exact ⟨d, by simpa using h1, h2⟩
theorem wk_keys {a : Addr} {o : Obj} {ds : List (Key × Dt)} {vs : List (Key × V)} (w : Wd K st I H) (hk : a ∉ keys st) (h : H a = some (.frz o (.dK vs))) (hd : IsDk K I ds vs) : Wk K st I H (Itk a o vs) (keysD ds) := by
  refine ⟨_, _, by rw [keysD, List.length_map, isDk_len hd]; exact walk_keys, fun st2 I2 H2 w2 s2 => s2.hh a _ hk h, fun i H2 x H3 st2 I2 hi w2 s2 y => ?_⟩
  obtain ⟨rfl, k, v, hv, rfl⟩ := y
  obtain ⟨d, h1, _⟩ := isDk_at hd hv
  refine ⟨.dat (dKey k), I2, by rw [keysD, List.getElem?_map, h1]; rfl, w2, Stp.refl _ _ _, ?_⟩
  cases k with
  | inl i => exact .dat (.int i)
  | inr x => exact .dat (.str x)
def keysTD (ds : List (List Key × Dt)) : List Sv := ds.map fun p => .dat (.tup (p.1.map dKey))
theorem isDt_len {I : Hp} : ∀ {ds : List (List Key × Dt)} {vs : List (List Key × V)}, IsDt K I ds vs → ds.length = vs.length
  | _, _, .nil => rfl
  | _, _, .cons _ r => congrArg Nat.succ (isDt_len r)
theorem isDt_at {I : Hp} : ∀ {ds : List (List Key × Dt)} {vs : List (List Key × V)} {i : Nat} {k : List Key} {v : V}, IsDt K I ds vs → vs[i]? = some (k, v) → ∃ d, ds[i]? = some (k, d) ∧ IsD K I d v
  | _, _, 0, _, _, .cons h _, e => by
    cases e
    exact ⟨_, rfl, h⟩
  | _, _, i + 1, _, _, .cons _ r, e => by
    obtain ⟨d, h1, h2⟩ := isDt_at (i := i) r (by simpa using e)
    exact ⟨d, by simpa using h1, h2⟩
theorem keys_isD {I : Hp} : ∀ ks : List Key, IsDs K I (ks.map dKey) (ks.map kV)
  | [] => .nil
  | .inl i :: ks => .cons (.int i) (keys_isD ks)
  | .inr x :: ks => .cons (.str x) (keys_isD ks)
theorem wk_keysT {a : Addr} {o : Obj} {ds : List (List Key × Dt)} {vs : List (List Key × V)} (w : Wd K st I H) (hk : a ∉ keys st) (h : H a = some (.frz o (.dT vs))) (hd : IsDt K I ds vs) : Wk K st I H (Itkt a o vs) (keysTD ds) := by
  refine ⟨_, _, by rw [keysTD, List.length_map, isDt_len hd]; exact walk_keysT, fun st2 I2 H2 w2 s2 => s2.hh a _ hk h, fun i H2 x H3 st2 I2 hi w2 s2 y => ?_⟩
  obtain ⟨rfl, k, v, q, hv, rfl, hq⟩ := y
  obtain ⟨d, h1, _⟩ := isDt_at hd hv
  obtain ⟨w3, s3⟩ := know_tup w2 hq
  exact ⟨.dat (.tup (k.map dKey)), _, by rw [keysTD, List.getElem?_map, h1]; rfl, w3, s3, .dat (.tup upd_same (keys_isD k))⟩
/-- for k in d, d a known dict -/
def dForK (te : DE) (g : DG) (body : DS) : DS := fun Δ st N => te Δ st (fun x st1 => match x with
  | .dat (.dic ds) => loopD (keysD ds) g body Δ st1 N
  | .dat (.dtt ds) => loopD (keysTD ds) g body Δ st1 N
  | _ => False) (exAt N Δ)
theorem lowS_forK {X : Cx} {W : WX} {te : DE} {g : DG} {body : DS} : ∀ D σ H, lowS K (dForK te g body) W D σ H → tFor (iKeys (lockE X (low K te W))) (lowG K g) (lowS K body (wxU X W)) (endsU X D) σ H := by
  rintro D σ H ⟨Δ, st, I, N, wd, sl, h, e⟩
  refine low_go wd sl h (fun x st1 v I1 H1 h1 w1 s1 i1 => ?_) (cx_of sl e)
  cases i1 with
  | own p => exact h1.elim
  | dat hd =>
    cases hd with
    | dic r hk =>
      rename_i ds vs a
      have e1 := e.go s1
      have l1 := sl.mono s1.ii
      rcases w1.sub.rd r with hH | ⟨o, hH⟩
      · rcases r with hI | ⟨o, hI⟩
        · refine .inr ⟨a, _, hH, trivial, fun od nf => ⟨a, od, rfl, .inl ⟨vs, upd_same, ?_⟩⟩⟩
          have w2 := lock_w (od := od) w1 (.inl ⟨_, rfl⟩) hI hH
          exact for_go (ends_L e1 w1 hI hH nf) w2 l1 h1 (wk_keys w2 (notkey w1 hI) upd_same hk)
        · rcases w1.sub a _ hI with q | ⟨q | q, _⟩
          · rw [hH] at q; cases q
          · obtain ⟨_, q⟩ := q; cases q
          · obtain ⟨_, q⟩ := q; cases q
      · have nk : a ∉ keys st1 := by
          rcases r with hI | ⟨o, hI⟩
          · exact notkey w1 hI
          · exact notkey w1 hI
        exact .inl ⟨a, o, rfl, .inl ⟨vs, hH, for_go (ends_U e1) w1 l1 h1 (wk_keys w1 nk hH hk)⟩⟩
    | dtt r hk =>
      rename_i ds vs a
      have e1 := e.go s1
      have l1 := sl.mono s1.ii
      rcases w1.sub.rd r with hH | ⟨o, hH⟩
      · rcases r with hI | ⟨o, hI⟩
        · refine .inr ⟨a, _, hH, trivial, fun od nf => ⟨a, od, rfl, .inr ⟨vs, upd_same, ?_⟩⟩⟩
          have w2 := lock_w (od := od) w1 (.inr ⟨_, rfl⟩) hI hH
          exact for_go (ends_L e1 w1 hI hH nf) w2 l1 h1 (wk_keysT w2 (notkey w1 hI) upd_same hk)
        · rcases w1.sub a _ hI with q | ⟨q | q, _⟩
          · rw [hH] at q; cases q
          · obtain ⟨_, q⟩ := q; cases q
          · obtain ⟨_, q⟩ := q; cases q
      · have nk : a ∉ keys st1 := by
          rcases r with hI | ⟨o, hI⟩
          · exact notkey w1 hI
          · exact notkey w1 hI
        exact .inl ⟨a, o, rfl, .inr ⟨vs, hH, for_go (ends_U e1) w1 l1 h1 (wk_keysT w1 nk hH hk)⟩⟩
    | _ => exact h1.elim
/-- [.. for k in d ..] -/
def dLcK (te : DE) (g : DG) (tt : DT) (el : DE) (vs : List Nat) : DE := fun Δ st ok ex => te Δ st (fun x st1 => match x with
  | .dat (.dic ds) => lcD g tt el vs (keysD ds) Δ st1 ok
  | .dat (.dtt ds) => lcD g tt el vs (keysTD ds) Δ st1 ok
  | _ => False) ex
theorem low_lcK {X : Cx} {W : WX} {te el : DE} {g : DG} {tt : DT} {ns : List Nat} : ∀ σ H Q, low K (dLcK te g tt el ns) W σ H Q → tLc (iKeys (lockE X (low K te W))) (lowGw K ns g) (lowT K tt W0) (low K el W0) ns σ H fun v H' => Lk X H' (Q v) := by
  rintro σ H Q ⟨Δ, st, I, ok, ex, wd, sl, h, c, cx⟩
  refine low_go wd sl h (fun x st1 v I1 H1 h1 w1 s1 i1 => ?_) cx
  cases i1 with
  | own p => exact h1.elim
  | dat hd =>
    cases hd with
    | dic r hk =>
      rename_i ds vs a
      have c1 := c.go s1
      have l1 := sl.mono s1.ii
      rcases w1.sub.rd r with hH | ⟨o, hH⟩
      · rcases r with hI | ⟨o, hI⟩
        · refine .inr ⟨a, _, hH, trivial, fun od nf => ⟨a, od, rfl, .inl ⟨vs, upd_same, ?_⟩⟩⟩
          have w2 := lock_w (od := od) w1 (.inl ⟨_, rfl⟩) hI hH
          exact lc_go w2 l1 h1 (wk_keys w2 (notkey w1 hI) upd_same hk) (cont_L c1 w1 hI hH nf)
        · rcases w1.sub a _ hI with q | ⟨q | q, _⟩
          · rw [hH] at q; cases q
          · obtain ⟨_, q⟩ := q; cases q
          · obtain ⟨_, q⟩ := q; cases q
      · have nk : a ∉ keys st1 := by
          rcases r with hI | ⟨o, hI⟩
          · exact notkey w1 hI
          · exact notkey w1 hI
        exact .inl ⟨a, o, rfl, .inl ⟨vs, hH, lc_go w1 l1 h1 (wk_keys w1 nk hH hk) (cont_U c1)⟩⟩
    | dtt r hk =>
      rename_i ds vs a
      have c1 := c.go s1
      have l1 := sl.mono s1.ii
      rcases w1.sub.rd r with hH | ⟨o, hH⟩
      · rcases r with hI | ⟨o, hI⟩
        · refine .inr ⟨a, _, hH, trivial, fun od nf => ⟨a, od, rfl, .inr ⟨vs, upd_same, ?_⟩⟩⟩
          have w2 := lock_w (od := od) w1 (.inr ⟨_, rfl⟩) hI hH
          exact lc_go w2 l1 h1 (wk_keysT w2 (notkey w1 hI) upd_same hk) (cont_L c1 w1 hI hH nf)
        · rcases w1.sub a _ hI with q | ⟨q | q, _⟩
          · rw [hH] at q; cases q
          · obtain ⟨_, q⟩ := q; cases q
          · obtain ⟨_, q⟩ := q; cases q
      · have nk : a ∉ keys st1 := by
          rcases r with hI | ⟨o, hI⟩
          · exact notkey w1 hI
          · exact notkey w1 hI
        exact .inl ⟨a, o, rfl, .inr ⟨vs, hH, lc_go w1 l1 h1 (wk_keysT w1 nk hH hk) (cont_U c1)⟩⟩
    | _ => exact h1.elim
end
theorem sforK {X : Cx} {W : WX} {tg iter : Expr} {ss : List Stmt} {pos : Pos} {te : DE} {g : DG} {t : DS} (hp : PassesOwn (model X.prog X.w) X.A X.env X.xe) (tk : Takes X W) (hi : PEd X W iter te) (hg : PGd X tg g) (hb : ∀ V : WX, Takes X V → PBd X V ss t) (hc : X.calm = true := by rfl)
    (hs : ∀ x, foldedSetIterable iter X.env x = pure x := by intro _; rfl) : PSd X W (.For tg iter ss [] pos) (dForK te g t) := PS.imp (ps_unl (ps_for hp hc (pi_keys (pe_lockE hi)) hg (hb _ (takes_unl tk)) hs)) lowS_forK
theorem dlcK {X : Cx} {W : WX} {elt tg iter : Expr} {ifs : List Expr} {scope : Scope} {pos : Pos} {ti te : DE} {g : DG} {tt : DT} (own : List (Str × Nat)) (hN : X.N.Nodup) (hi : PEd X W iter ti) (ok : BlkOk X.N X.env.scope scope own)
    (hg : ∀ (s : Shared) (H : Hp) (C : Addr) (cl : List (Str × Addr)) (fp : List Addr), PGw (X.blk s H scope (compEnvC scope cl C X.env) fp) (own.map (·.2)) tg g) (ht : ∀ (s : Shared) (H : Hp) (C : Addr) (cl : List (Str × Addr)) (fp : List Addr), PTsd (X.blk s H scope (compEnvC scope cl C X.env) fp) ifs tt)
    (he : ∀ (s : Shared) (H : Hp) (C : Addr) (cl : List (Str × Addr)) (fp : List Addr), PEd (X.blk s H scope (compEnvC scope cl C X.env) fp) W0 elt te) (hc : X.calm = true := by rfl) (hs : ∀ x, foldedSetIterable iter X.env x = pure x := by intro _; rfl) :
    PEd X W (.ListComp elt [⟨tg, iter, ifs, 0⟩] scope pos) (dLcK ti g tt te (own.map (·.2))) := PE.imp (pe_unl (pe_lc hc hN (pi_keys (pe_lockE hi)) ok hg ht he hs)) low_lcK
end DD
namespace DD
open PySem PySem.Spec PyProof.Rows L2
section
variable {K : PySem.W.Frag}
def rLenR : List V → Hp → VK → Prop := fun xs H Q => ∃ a kvs, xs = [V.ref a] ∧ Rd H a (.dK kvs) ∧ Q (.int kvs.length) H
theorem call_lenR {X : Cx} : CallR X (.builtin "len") rLenR := by
  intro pins s σ H xs us Q I r h
  obtain ⟨a, kvs, rfl, ha, q⟩ := h
  obtain ⟨u, rfl, ru⟩ := vals1 r
  have eu : u = Value.ref a := ru
  subst eu
  exact d_len I ha fun t s' I' => ⟨.int kvs.length, H, I', ⟨t, rfl⟩, q⟩
def gLenK : GC := fun xs st ok => match xs with
  | [x] => withK x st fun kvs => ok (.dat (.int kvs.length)) st
  | _ => False
theorem lc_lenK : LRC (K := K) rLenR gLenK := by
  intro xs st I H ok Q vs wd ix h c
  unfold gLenK at h
  split at h
  · obtain ⟨v, rfl, i⟩ := one_of rfl ix
    obtain ⟨a, us, kvs, rfl, hd, hp, h⟩ := withK_rd wd i h
    rw [paired_len hp] at h
    exact ⟨a, us, rfl, hd, c.now wd h (.dat (.int _))⟩
  · exact h.elim
def rSortK : List V → Hp → VK → Prop := fun xs H Q => ∃ (a : Addr) (kvs : List (Key × V)) (ks : List Str), xs = [.ref a] ∧ Rd H a (.dK kvs) ∧ kvs.map (·.1) = ks.map Sum.inr ∧ ks.length < 64 ∧
    ∀ ys p, ys.Perm ks → sortedS ys = true → H p = none → Q (.ref p) (upd H p (.lst (ys.map V.str)))
/-- sorted(d), the keys texts -/
def gSortK : GC := fun xs st ok => match xs with
  | [x] => withK x st fun kvs => ∃ ks : List Str, kvs.map (·.1) = ks.map Sum.inr ∧ ks.length < 64 ∧ ∀ ys : List Str, ys.Perm ks → sortedS ys = true → ok (.dat (.lst (ys.map Dt.str))) st
  | _ => False
theorem rk_keys {I : Hp} : ∀ {kvs : List (Key × Sv)} {vs : List (Key × V)}, Paired (RK K I) kvs vs → kvs.map (·.1) = vs.map (·.1)
  | _, _, .nil => rfl
  | _, _, .cons r t => by
    rw [List.map_cons, List.map_cons, rk_keys t, r.1]
theorem strs_is {I : Hp} : ∀ ys : List Str, IsDs K I (ys.map Dt.str) (ys.map V.str)
  | [] => .nil
  | y :: ys => .cons (.str y) (strs_is ys)
theorem lc_sortK : LRC (K := K) rSortK gSortK := by
  intro xs st I H ok Q vs wd ix h c
  unfold gSortK at h
  split at h
  · obtain ⟨v, rfl, i⟩ := one_of rfl ix
    obtain ⟨a, us, kvs, rfl, hd, hp, ks, e1, e2, h⟩ := withK_rd wd i h
    refine ⟨a, us, ks, rfl, hd, by rw [← rk_keys hp]; exact e1, e2, fun ys p h1 h2 hq => ?_⟩
    obtain ⟨w2, s2⟩ := new_known (o := .lst (ys.map V.str)) wd hq
    exact c _ _ _ _ _ (h ys h1 h2) w2 s2 (.dat (.lst upd_same (strs_is ys)))
  · exact h.elim
end
end DD
namespace DD
open PySem PySem.Spec PyProof.Rows L2
theorem any_it {J : It} {n : Nat} {G : Hp → Prop} {Y : Nat → Hp → V → Hp → Prop} (w : Walk J n G Y) {H0 : Hp} {Qd : Hp → Prop} {B : (Hp → Prop) → V → Hp → Prop} (P : Nat → Hp → Prop) (h0 : P 0 H0) (hG : ∀ i H, P i H → G H)
    (hs : ∀ i x H H', i < n → P i H → Y i H x H' → B (P (i + 1)) x H') (hd : ∀ H, P n H → Qd H) :
    ∃ W : Nat → Nat → Hp → Prop, (∃ m, W 0 m H0) ∧ ∀ i m H, W i m H → (J.stop i H ∧ Qd H) ∨ (J.go i H ∧ ∃ N : Hp → Prop, (∀ H', N H' → ∃ m', m' < m ∧ W (i + 1) m' H') ∧ ∀ x H', J.yld i H x H' → B N x H') := by
  refine ⟨fun i m H => m + i = n ∧ P i H, ⟨n, rfl, h0⟩, fun i m H ⟨e, p⟩ => ?_⟩
  cases m with
  | zero =>
    have e : i = n := by omega
    subst e
    exact .inl ⟨w.stops H (hG _ _ p), hd H p⟩
  | succ m =>
    have l : i < n := by omega
    exact .inr ⟨w.goes i H l (hG _ _ p), P (i + 1), fun H' q => ⟨m, Nat.lt_succ_self m, by omega, q⟩, fun x H' y => hs i x H H' l p (w.yields i H x H' l (hG _ _ p) y)⟩
@[irreducible] def dcD (g : DG) (tt : DT) (tk tv : DE) (vs : List Nat) (xs : List Sv) (Δ : List Sv) (st1 : Store) (ok : OK) : Prop := ∀ D, D ∉ keys st1 → ∃ J : Nat → List (Key × Sv) → Store → Prop, J 0 [] st1 ∧
  (∀ i d acc st', xs[i]? = some d → J i acc st' → D ∉ keys st' → g d (wipeD Δ vs) ((D, .dic acc) :: st') fun Δ2 st2 => tt Δ2 st2 (fun b st3 =>
    (b = true → tk Δ2 st3 (fun y st4 => tv Δ2 st4 (fun z st5 => ∃ dy k acc' st6, y = .dat dy ∧ keyD dy = some k ∧ st5 = (D, .dic acc') :: st6 ∧ acc'.length < sizeLine ∧ J (i + 1) (putD acc' k z) st6) fun _ _ => False) fun _ _ => False) ∧
    (b = false → ∃ acc' st5, st3 = (D, .dic acc') :: st5 ∧ J (i + 1) acc' st5)) fun _ _ => False) ∧
  ∀ acc st', J xs.length acc st' → ∃ ds, AllK acc ds ∧ ok (.dat (.dic ds)) st'
theorem dcD_eq (g : DG) (tt : DT) (tk tv : DE) (vs : List Nat) (xs : List Sv) (Δ : List Sv) (st1 : Store) (ok : OK) : dcD g tt tk tv vs xs Δ st1 ok = (∀ D, D ∉ keys st1 → ∃ J : Nat → List (Key × Sv) → Store → Prop, J 0 [] st1 ∧
  (∀ i d acc st', xs[i]? = some d → J i acc st' → D ∉ keys st' → g d (wipeD Δ vs) ((D, .dic acc) :: st') fun Δ2 st2 => tt Δ2 st2 (fun b st3 =>
    (b = true → tk Δ2 st3 (fun y st4 => tv Δ2 st4 (fun z st5 => ∃ dy k acc' st6, y = .dat dy ∧ keyD dy = some k ∧ st5 = (D, .dic acc') :: st6 ∧ acc'.length < sizeLine ∧ J (i + 1) (putD acc' k z) st6) fun _ _ => False) fun _ _ => False) ∧
    (b = false → ∃ acc' st5, st3 = (D, .dic acc') :: st5 ∧ J (i + 1) acc' st5)) fun _ _ => False) ∧
  ∀ acc st', J xs.length acc st' → ∃ ds, AllK acc ds ∧ ok (.dat (.dic ds)) st') := by
  unfold dcD
  rfl
section
variable {K : PySem.W.Frag} {W : WX} {st : Store} {I H : Hp}
theorem dc_go {g : DG} {tt : DT} {tk tv : DE} {vs : List Nat} {Δ : List Sv} {ok : OK} {σ : L2.St} {Q : VK} {J : It} {xs : List Sv} (w1 : Wd K st I H) (sl : Sl K Δ I σ) (h1 : dcD g tt tk tv vs xs Δ st ok) (k1 : Wk K st I H J xs) (c : Cont K st I H ok Q) (D : Addr) (hD : H D = none) :
    ∃ W : Nat → Nat → Hp → Prop, (∃ m, W 0 m (upd H D (.dK []))) ∧ ∀ i m H, W i m H →
  (J.stop i H ∧ Q (.ref D) H) ∨ (J.go i H ∧ ∃ Nx : Hp → Prop, (∀ H', Nx H' → ∃ m', m' < m ∧ W (i + 1) m' H') ∧ ∀ x H', J.yld i H x H' → lowGw K vs g x (wipe σ vs) H' fun σ2 H2 => wipe σ2 vs = wipe σ vs ∧ lowT K tt W0 σ2 H2 fun b H3 =>
    if b = true then low K tk W0 σ2 H3 fun y H4 => low K tv W0 σ2 H4 fun z H5 => ∃ kvs k, y = kV k ∧ H5 D = some (.dK kvs) ∧ kvs.length < sizeLine ∧ Nx (upd H5 D (.dK (putK kvs k z))) else Nx H3) := by
  obtain ⟨np, w2, s2⟩ := new_own (o := .dK []) (ob := .dic []) w1 hD (.dic .nil)
  rw [dcD_eq] at h1
  obtain ⟨Jv, j0, jt, je⟩ := h1 D np
  obtain ⟨G, Y, wk, hg, hy⟩ := k1.w
  refine any_it wk (B := fun Nx x H' => lowGw K vs g x (wipe σ vs) H' fun σ2 H2 => wipe σ2 vs = wipe σ vs ∧ lowT K tt W0 σ2 H2 fun b H3 => if b = true then low K tk W0 σ2 H3 fun y H4 => low K tv W0 σ2 H4 fun z H5 => ∃ kvs k, y = kV k ∧ H5 D = some (.dK kvs) ∧ kvs.length < sizeLine ∧ Nx (upd H5 D (.dK (putK kvs k z))) else Nx H3)
    (fun i H' => ∃ acc st' I', Jv i acc st' ∧ Wd K ((D, .dic acc) :: st') I' H' ∧ Stp st I H ((D, .dic acc) :: st') I' H') ⟨[], st, I, j0, w2, s2⟩ (fun i H' ⟨_, _, I', _, w', s'⟩ => hg _ I' H' w' s') ?_ ?_
  · rintro i x H' H3 hi ⟨acc, st', I', hj, w', s'⟩ y
    obtain ⟨d, I3, hd, w3, s3, ix⟩ := hy i H' x H3 _ I' hi w' s' y
    have t3 := s'.trans s3
    refine ⟨d, _, _, I3, _, w3, sl_wipe (sl.mono t3.ii) vs, ix, jt i d acc st' hd hj (List.nodup_cons.mp w'.nd).1, fun Δ4 st4 σ4 I4 H4 h4 w4 s4 l4 e4 => ⟨by rw [e4, wipe_wipe], ?_⟩⟩
    have t4 := t3.trans s4
    refine lowT_go w4 l4 h4 (fun b st5 I5 H5 h5 w5 s5 => ?_) (fun _ _ _ _ _ _ z => z.elim)
    have t5 := t4.trans s5
    cases b with
    | false =>
      refine iteF ?_
      obtain ⟨acc', st7, rfl, hj'⟩ := h5.2 rfl
      exact ⟨acc', st7, I5, hj', w5, t5⟩
    | true =>
      refine iteT (low_go w5 (l4.mono s5.ii) (h5.1 rfl) (fun y st6 u I6 H6 h6 w6 s6 i6 => ?_) (fun _ _ _ _ _ _ z => z.elim))
      refine low_go w6 (l4.mono (s5.ii.trans s6.ii)) h6 (fun z st7 u2 I7 H7 h7 w7 s7 i7 => ?_) (fun _ _ _ _ _ _ z => z.elim)
      obtain ⟨dy, k, acc', st8, rfl, hk, rfl, hl, hj'⟩ := h7
      obtain ⟨_, o, ho, io⟩ := w7.own D _ List.mem_cons_self
      cases io with
      | @dic _ ws hs =>
        cases i6 with
        | dat i6 =>
          obtain ⟨w9, s9⟩ := set_own (j := 0) (o' := .dK (putK ws k u2)) (ob' := .dic (putD acc' k z)) w7 rfl (.dic (rk_putD i7 hs))
          exact ⟨ws, k, key_is i6 hk, ho, by rw [← paired_len hs]; exact hl, putD acc' k z, st8, I7, hj', w9, ((t5.trans s6).trans s7).trans s9⟩
  · rintro H' ⟨acc, st', I', hj, w', s'⟩
    obtain ⟨ds, ha, hok⟩ := je _ _ hj
    obtain ⟨_, o, ho, io⟩ := w'.own D _ List.mem_cons_self
    cases io with
    | dic hs =>
      obtain ⟨w9, s9, e9⟩ := pub_head w' ho s'
      exact c _ _ _ _ _ hok w9 s9 (.dat (.dic (.inl upd_same) ((isDk_of ha hs).mono e9)))
def dDc (it : DI) (g : DG) (tt : DT) (tk tv : DE) (vs : List Nat) : DE := fun Δ st ok ex => it Δ st (fun xs st1 => dcD g tt tk tv vs xs Δ st1 ok) ex
theorem low_dc {it : DI} {g : DG} {tt : DT} {tk tv : DE} {vs : List Nat} : ∀ σ H Q, low K (dDc it g tt tk tv vs) W σ H Q → tDc (lowI K it W) (lowGw K vs g) (lowT K tt W0) (low K tk W0) (low K tv W0) vs σ H Q := by
  rintro σ H Q ⟨Δ, st, I, ok, ex, wd, sl, h, c, cx⟩
  exact ⟨Δ, st, I, _, _, wd, sl, h, fun xs st1 I1 H1 J h1 w1 s1 k1 D hD => dc_go w1 (sl.mono s1.ii) h1 k1 (c.go s1) D hD, cx⟩
end
theorem ddc {X : Cx} {W : WX} {kx vx tg iter : Expr} {ifs : List Expr} {scope : Scope} {pos : Pos} {it : DI} {tk tv : DE} {g : DG} {tt : DT} (own : List (Str × Nat)) (hN : X.N.Nodup) (hi : PId X W tg iter it) (ok : BlkOk X.N X.env.scope scope own)
    (hg : ∀ (s : Shared) (H : Hp) (C : Addr) (cl : List (Str × Addr)) (fp : List Addr), PGw (X.blk s H scope (compEnvC scope cl C X.env) fp) (own.map (·.2)) tg g) (ht : ∀ (s : Shared) (H : Hp) (C : Addr) (cl : List (Str × Addr)) (fp : List Addr), PTsd (X.blk s H scope (compEnvC scope cl C X.env) fp) ifs tt)
    (hk : ∀ (s : Shared) (H : Hp) (C : Addr) (cl : List (Str × Addr)) (fp : List Addr), PEd (X.blk s H scope (compEnvC scope cl C X.env) fp) W0 kx tk) (he : ∀ (s : Shared) (H : Hp) (C : Addr) (cl : List (Str × Addr)) (fp : List Addr), PEd (X.blk s H scope (compEnvC scope cl C X.env) fp) W0 vx tv)
    (hc : X.calm = true := by rfl) (hs : ∀ x, foldedSetIterable iter X.env x = pure x := by intro _; rfl) : PEd X W (.DictComp kx vx [⟨tg, iter, ifs, 0⟩] scope pos) (dDc it g tt tk tv (own.map (·.2))) := PE.imp (pe_dc hc hN hi ok hg ht hk he hs) low_dc
end DD
namespace DD
open PySem PySem.Spec PyProof.Rows L2
open AutoSeq1 (wpAny_loadPart') in
theorem tup_new_src {prog : Program} {w : World} {r d : Addr} {n : Nat} {P : Nat → Value → Prop} {OK : Heap → Prop} (S : PySem.W.KdlSrc prog w "dict" r d n P OK) (hn : n ≤ sizeLine) :
    MeetsIn prog w (Builtin.«tuple.__new__» ⟨[.type "tuple", .ref r], []⟩) (fun A R s => A.handled = none ∧ OK s.heap ∧ (∃ o, s.heap.get? r = some o ∧ o.cls = .type "dict") ∧ ∀ (h' : Heap) (tk : Nat) (acc : Array Value), (∀ b o, s.heap.get? b = some o → h'.get? b = some o) → ItemsOf P acc n →
      R (.ok (.ret (.ref h'.objs.size))) { s with heap := h'.push { cls := .type "tuple", data := .seq acc }, toks := tk }) :=
  .of_wp fun A R s h => by
    obtain ⟨hp, g, dr, tk, os⟩ := s
    obtain ⟨hh, hok, ⟨o, ho, hc⟩, h⟩ := h
    have hsub := PySem.sub_tuple_self
    have hinit := PySem.init_tuple_lookup
    have hmh := PySem.madeHere_tuple
    have hT : Shared.TypeIs ⟨hp, g, dr, tk, os⟩ (.ref r) "dict" := S.type ⟨hp, g, dr, tk, os⟩ hok
    wp_walk using wpAny_loadPart' ho, wpAny_typeOf hT, PySem.W.kdu_collect (A := A.in1) S hh hok hn
    intro h' tk' acc hk items
    show wpAny _ _ (Builtin.Tuple.tupleExact acc.toList.toArray >>= fun v => ret v) _ _ _
    unfold Builtin.Tuple.tupleExact
    refine wpAny_bind (wpAny_newObj_type ?_ (by show acc.toList.toArray.size ≤ sizeLine; rw [Array.toArray_toList, items.1]; exact hn))
    refine wpAny_pure ⟨_, rfl, ?_⟩
    rw [Array.toArray_toList]
    exact h h' tk' acc hk items
def rTupK : List V → Hp → VK → Prop := fun xs H Q => ∃ p kvs, xs = [.ref p] ∧ Rd H p (.dK kvs) ∧ ∀ q, H q = none → Q (.ref q) (upd H q (.tup (kvs.map fun kv => kV kv.1)))
theorem call_tupleK {X : Cx} (hc : X.calm = true) : CallR X (.type "tuple") rTupK := by
  intro pins s σ H xs us Q I r h
  obtain ⟨p, kvs, e, hk, q⟩ := h
  subst e
  obtain ⟨u, eu, rx⟩ := vals1 r
  subst eu
  have eu : u = Value.ref p := rx
  subst eu
  obtain ⟨z, lo, vs, rk, hd⟩ : ObjOk X.prog X.w H s.heap p (.dK kvs) := hk.ok I.hok
  obtain ⟨ep, hat⟩ := hd.dictAt
  have hl : kvs.length = vs.length := Paired.length rk
  obtain ⟨o, ho, hco⟩ : ∃ o, s.heap.get? p = some o ∧ o.cls = .type "dict" := hd.typeIs
  refine PySem.callType_newIn PySem.F.called_tuple (by decide) (PySem.F.typeCall_tuple_1 _) (PySem.F.newCall_tuple_1 _) (fun obj => PySem.F.args_object_init_2 obj _) PySem.F.entry_tuple_new
    (tup_new_src (PySem.W.kdl_dict (knd := mixKind X.prog X.w) (kvs := vs) (ep := ep) lo) (by rw [← hl]; exact z)) ⟨I.ok.hd hc, hat, ⟨o, ho, hco⟩, fun h' tk acc keep items => ⟨⟨_, Heap.get?_push_size _ rfl, rfl⟩, ?_⟩⟩
  have rel : Vals (kvs.map fun kv => kV kv.1) acc.toList := by
    have e0 : acc.toList.length = kvs.length := by rw [Array.length_toList, items.1, hl]
    apply vals_of_at (by rw [List.length_map]; exact e0.symm)
    intro j x w h1 h2
    obtain ⟨k, y, hky, hi⟩ := items.2 j w (by rw [← Array.getElem?_toList]; exact h2)
    have e1 : (kvs.map (·.1))[j]? = some k := by rw [KV.keys rk, List.getElem?_map, hky]; rfl
    have e2 : (kvs.map fun kv => kV kv.1)[j]? = some (kV k) := by
      have e3 : (kvs.map fun kv => kV kv.1) = (kvs.map (·.1)).map kV := by rw [List.map_map]; rfl
      rw [e3, List.getElem?_map, e1]
      rfl
    rw [e2] at h1
    cases h1
    exact keyIs_rel hi
  have I1 : L2.Inv X pins σ H { s with heap := h', toks := tk } := I.kept keep
  have I2 := I1.laid (t' := tk) (h' := h'.push { cls := .type "tuple", data := .seq acc }) (a := h'.objs.size) (fun b o e => Heap.get?_push_of_some _ e) (Nat.le_refl _)
    (show ObjOk X.prog X.w _ _ _ (.tup (kvs.map fun kv => kV kv.1)) from ⟨by rw [List.length_map]; exact z, acc.toList, rel, by rw [Array.toArray_toList]; exact IsTup.new h' acc⟩)
  exact ⟨.ref h'.objs.size, _, I2, rfl, q _ (I1.hok.fresh (Nat.le_refl _))⟩
section
variable {K : PySem.W.Frag}
def gTupK : GC := fun xs st ok => match xs with
  | [x] => withK x st fun kvs => ok (.dat (.tup (kvs.map fun kv => match kv.1 with | .inl i => .int i | .inr z => .str z))) st
  | _ => False
theorem lc_tupK : LRC (K := K) rTupK gTupK := by
  intro xs st I H ok Q vs wd ix h c
  unfold gTupK at h
  split at h
  · obtain ⟨v, rfl, i⟩ := one_of rfl ix
    obtain ⟨a, us, kvs, rfl, hd, hp, h⟩ := withK_rd wd i h
    refine ⟨a, us, rfl, hd, fun q hq => ?_⟩
    obtain ⟨w2, s2⟩ := new_known (o := .tup (us.map fun kv => kV kv.1)) wd hq
    exact c _ _ _ _ _ h w2 s2 (.dat (.tup upd_same (keys_rel hp _)))
  · exact h.elim
end
end DD
namespace DD
open PySem PySem.Spec PyProof.Rows L2
def dNeg (t : DE) : DE := fun Δ st ok ex => t Δ st (fun s st1 => match s with
  | .dat (.int i) => ok (.dat (.int (-i))) st1
  | _ => False) ex
theorem low_neg {K : PySem.W.Frag} {W : WX} {t : DE} : ∀ σ H Q, low K (dNeg t) W σ H Q → tUn (rU fun i => .int (-i)) (low K t W) σ H Q := by
  rintro σ H Q ⟨Δ, st, I, ok, ex, wd, sl, h, c, cx⟩
  refine low_go wd sl h (fun x st1 v I1 H1 h1 w1 s1 i1 => ?_) cx
  cases i1 with
  | own p => exact h1.elim
  | dat hd =>
    cases hd with
    | int i => exact ⟨i, rfl, (c.go s1).now w1 h1 (.dat (.int _))⟩
    | _ => exact h1.elim
theorem dneg {X : Cx} {W : WX} {e : Expr} {t : DE} {pos : Pos} (h : PEd X W e t) : PEd X W (.UnaryOp .USub e pos) (dNeg t) := PE.imp (pe_un un_neg h) low_neg
end DD
namespace DD
open PySem PySem.Spec PyProof.Rows L2
/-- what a comprehension over data has made: f tells each item's result, or none -/
structure LcJ {α : Type} (as : List α) (f : α → Option Dt) (st : Store) (i : Nat) (acc : List Sv) (st' : Store) : Prop where
  st : st' = st
  acc : acc = ((as.take i).filterMap f).map Sv.dat
theorem lcj_len {α : Type} {as : List α} {f : α → Option Dt} {st st' : Store} {i : Nat} {acc : List Sv} (h : LcJ as f st i acc st') (hi : i ≤ as.length) : acc.length ≤ i := by
  rw [h.acc, List.length_map]
  exact Nat.le_trans (List.length_filterMap_le _ _) (by rw [List.length_take]; omega)
theorem lc_yes {α : Type} {as : List α} {f : α → Option Dt} {st : Store} {i : Nat} {acc : List Sv} {D : Addr} {a : α} {r : Dt} (hl : as.length ≤ sizeLine) (ha : as[i]? = some a) (J : LcJ as f st i acc st) (hf : f a = some r) :
    ∃ acc' st5, ((D, Ob.lst acc) :: st) = (D, .lst acc') :: st5 ∧ acc'.length < sizeLine ∧ LcJ as f st (i + 1) (acc' ++ [.dat r]) st5 := by
  have hi := (List.getElem?_eq_some_iff.mp ha).1
  refine ⟨acc, st, rfl, Nat.lt_of_le_of_lt (lcj_len J (by omega)) (by omega), rfl, ?_⟩
  rw [J.acc, List.take_succ, ha, List.filterMap_append, List.map_append]
  simp [hf]
theorem lc_no {α : Type} {as : List α} {f : α → Option Dt} {st : Store} {i : Nat} {acc : List Sv} {D : Addr} {a : α} (ha : as[i]? = some a) (J : LcJ as f st i acc st) (hf : f a = none) :
    ∃ acc' st5, ((D, Ob.lst acc) :: st) = (D, .lst acc') :: st5 ∧ LcJ as f st (i + 1) acc' st5 := by
  refine ⟨acc, st, rfl, rfl, ?_⟩
  rw [J.acc, List.take_succ, ha, List.filterMap_append, List.map_append]
  simp [hf]
theorem lc_pure {α : Type} {g : DG} {tt : DT} {te : DE} {vs : List Nat} {xs : List Sv} {Δ : List Sv} {st : Store} {ok : OK} (as : List α) (e : α → Dt) (f : α → Option Dt) (hx : xs = as.map fun a => .dat (e a))
    (hb : ∀ i a D acc, as[i]? = some a → D ∉ keys st → LcJ as f st i acc st → g (.dat (e a)) (wipeD Δ vs) ((D, .lst acc) :: st) fun Δ2 st2 => tt Δ2 st2 (fun b st3 =>
      (b = true → te Δ2 st3 (fun y st4 => ∃ acc' st5, st4 = (D, .lst acc') :: st5 ∧ acc'.length < sizeLine ∧ LcJ as f st (i + 1) (acc' ++ [y]) st5) fun _ _ => False) ∧ (b = false → ∃ acc' st5, st3 = (D, .lst acc') :: st5 ∧ LcJ as f st (i + 1) acc' st5)) fun _ _ => False)
    (hk : ok (.dat (.lst (as.filterMap f))) st) : lcD g tt te vs xs Δ st ok := by
  subst hx
  rw [lcD_eq]
  intro D hD
  refine ⟨LcJ as f st, ⟨rfl, by simp⟩, ?_, ?_⟩
  · rintro i d acc st' hd J hD'
    obtain rfl := J.st
    rw [List.getElem?_map] at hd
    cases ea : as[i]? with
    | none => rw [ea] at hd; cases hd
    | some a =>
      rw [ea] at hd
      cases hd
      exact hb i a D acc ea hD' J
  · rintro acc st' J
    obtain rfl := J.st
    have e := J.acc
    rw [List.length_map, List.take_length] at e
    subst e
    exact ⟨_, .map _, hk⟩
/-- a loop that carries a state -/
theorem loop_fold {α σ : Type} {xs : List Sv} {g : DG} {body : DS} {Δ : List Sv} {st : Store} {N : DN} (as : List α) (e : α → Dt) (F : σ → α → σ) (s0 : σ) (R : σ → List Sv → Store → Prop) (hx : xs = as.map fun a => .dat (e a))
    (h0 : R s0 Δ st) (ht : ∀ (pre : List α) a post s Δ' st', as = pre ++ a :: post → s = pre.foldl F s0 → R s Δ' st' → g (.dat (e a)) Δ' st' fun Δ2 st2 => body Δ2 st2 { N with nx := R (F s a), ct := R (F s a), bk := N.nx })
    (he : ∀ Δ' st', R (as.foldl F s0) Δ' st' → N.nx Δ' st') : loopD xs g body Δ st N := by
  subst hx
  rw [loopD_eq]
  refine ⟨fun i => R ((as.take i).foldl F s0), h0, fun i d Δ' st' hd h => ?_, fun Δ' st' h => he _ _ (by rw [List.length_map, List.take_length] at h; exact h)⟩
  rw [List.getElem?_map] at hd
  cases ea : as[i]? with
  | none => rw [ea] at hd; cases hd
  | some a =>
    rw [ea] at hd
    cases hd
    have e2 : (as.take (i + 1)).foldl F s0 = F ((as.take i).foldl F s0) a := by rw [List.take_succ, ea, List.foldl_append]; rfl
    have e3 : as = as.take i ++ a :: as.drop (i + 1) := by
      obtain ⟨hl, e⟩ := List.getElem?_eq_some_iff.mp ea
      rw [← e, List.getElem_cons_drop, List.take_append_drop]
    dsimp only
    rw [e2]
    exact ht (as.take i) a _ _ Δ' st' e3 rfl h
/-- a loop that looks for the first item with p -/
structure FJ {α : Type} (as : List α) (p : α → Bool) (R : List Sv → Store → Prop) (i : Nat) (Δ : List Sv) (st : Store) : Prop where
  r : R Δ st
  n : (as.take i).find? p = none
theorem fj_no {α : Type} {as : List α} {p : α → Bool} {R : List Sv → Store → Prop} {i : Nat} {Δ Δ' : List Sv} {st st' : Store} {a : α} (ha : as[i]? = some a) (J : FJ as p R i Δ st) (hp : p a = false) (r : R Δ' st') : FJ as p R (i + 1) Δ' st' := by
  refine ⟨r, ?_⟩
  rw [List.take_succ, ha, List.find?_append, J.n]
  simp [hp]
theorem fj_yes {α : Type} {as : List α} {p : α → Bool} {R : List Sv → Store → Prop} {i : Nat} {Δ : List Sv} {st : Store} {a : α} (ha : as[i]? = some a) (J : FJ as p R i Δ st) (hp : p a = true) : as.find? p = some a := by
  have e3 : as = as.take i ++ a :: as.drop (i + 1) := by
    obtain ⟨hl, e⟩ := List.getElem?_eq_some_iff.mp ha
    rw [← e, List.getElem_cons_drop, List.take_append_drop]
  rw [e3, List.find?_append, J.n, List.find?_cons, hp]
  rfl
theorem loop_find {α : Type} {xs : List Sv} {g : DG} {body : DS} {Δ : List Sv} {st : Store} {N : DN} (as : List α) (e : α → Dt) (p : α → Bool) (R : List Sv → Store → Prop) (hx : xs = as.map fun a => .dat (e a))
    (h0 : R Δ st) (ht : ∀ i a Δ' st', as[i]? = some a → FJ as p R i Δ' st' → g (.dat (e a)) Δ' st' fun Δ2 st2 => body Δ2 st2 { N with nx := FJ as p R (i + 1), ct := FJ as p R (i + 1), bk := N.nx })
    (he : ∀ Δ' st', R Δ' st' → as.find? p = none → N.nx Δ' st') : loopD xs g body Δ st N := by
  subst hx
  rw [loopD_eq]
  refine ⟨FJ as p R, ⟨h0, rfl⟩, fun i d Δ' st' hd h => ?_, fun Δ' st' h => he _ _ h.r (by have := h.n; rw [List.length_map, List.take_length] at this; exact this)⟩
  rw [List.getElem?_map] at hd
  cases ea : as[i]? with
  | none => rw [ea] at hd; cases hd
  | some a =>
    rw [ea] at hd
    cases hd
    exact ht i a Δ' st' ea h
/-- list length -/
abbrev dI (i : Int) : Sv := .dat (.int i)
theorem atI_of {α : Type} {xs : List α} {i : Int} (h0 : 0 ≤ i) (h1 : i < xs.length) : ∃ x, xs[i.toNat]? = some x ∧ atI xs i = some x := by
  have hl : i.toNat < xs.length := by omega
  refine ⟨xs[i.toNat], List.getElem?_eq_getElem hl, ?_⟩
  unfold atI ixN
  rw [if_pos h0, if_pos h1]
  exact List.getElem?_eq_getElem hl
theorem atI_get {α : Type} {xs : List α} {i : Int} {x : α} (h0 : 0 ≤ i) (h1 : xs[i.toNat]? = some x) : atI xs i = some x := by
  have hl := (List.getElem?_eq_some_iff.mp h1).1
  unfold atI ixN
  rw [if_pos h0, if_pos (by omega)]
  exact h1
theorem set_self {α : Type} {st : List α} {j : Nat} {x : α} (h : st[j]? = some x) : st.set j x = st := by
  obtain ⟨hl, e⟩ := List.getElem?_eq_some_iff.mp h
  rw [← e, List.set_getElem_self]
theorem set_at {α : Type} {st : List α} {j : Nat} {x y : α} (h : st[j]? = some x) : (st.set j y)[j]? = some y := List.getElem?_set_self (List.getElem?_eq_some_iff.mp h).1
end DD
namespace SP
open PySem PySem.Spec PyProof.Rows L2 DD
/-- one to eight letters a to z -/
def isWord (z : Str) : Bool := (decide (1 ≤ (z.length : Int)) && decide ((z.length : Int) ≤ 8)) && z.cps.toList.all fun c => decide (97 ≤ c) && decide (c ≤ 122)
def wordD : Dt → Bool
  | .str z => isWord z
  | _ => false
def isNum (x : Dt) (a b : Int) : Bool := match x with
  | .int i => decide (a ≤ i) && decide (i ≤ b)
  | _ => false
/-- plain: a scalar, a short text -/
def Pln : Dt → Prop
  | .non => True
  | .bl _ => True
  | .int _ => True
  | .str z => z.length ≤ sizeLine
  | _ => False
def ctWord : Ct := fun ss st ok _ => ∃ x, ss = [.dat x] ∧ Pln x ∧ ok (.dat (.bl (wordD x))) st
def ctNum : Ct := fun ss st ok _ => ∃ (x : Dt) (a b : Int), ss = [.dat x, .dat (.int a), .dat (.int b)] ∧ Pln x ∧ ok (.dat (.bl (isNum x a b))) st
theorem le_a (c : Nat) : (!decide ((⟨#[c]⟩ : Str).cps.toList < (Str.ofString "a").cps.toList)) = decide (97 ≤ c) := by
  have e : (Str.ofString "a").cps.toList = [97] := by decide +kernel
  rw [e]
  have e2 : ([c] < [97]) ↔ c < 97 := by rw [List.cons_lt_cons_iff]; simp
  by_cases h : 97 ≤ c
  · rw [decide_eq_true h, decide_eq_false (fun z => absurd (e2.mp z) (by omega))]
    rfl
  · rw [decide_eq_false h, decide_eq_true (e2.mpr (by omega))]
    rfl
theorem le_z (c : Nat) : (!decide ((Str.ofString "z").cps.toList < (⟨#[c]⟩ : Str).cps.toList)) = decide (c ≤ 122) := by
  have e : (Str.ofString "z").cps.toList = [122] := by decide +kernel
  rw [e]
  have e2 : ([122] < [c]) ↔ 122 < c := by rw [List.cons_lt_cons_iff]; simp
  by_cases h : c ≤ 122
  · rw [decide_eq_true h, decide_eq_false (fun z => absurd (e2.mp z) (by omega))]
    rfl
  · rw [decide_eq_false h, decide_eq_true (e2.mpr (by omega))]
    rfl
def inI : Dt → Int
  | .int i => i
  | _ => 0
/-- the first wrong part of a sending -/
def wrongS (c s e b n l : Dt) : Option Str :=
  bif wordD c then bif wordD s then bif isNum e 1 999 then bif isNum b 0 1000000 then bif isNum n (inI b + 1) 1000600 then bif isNum l 0 60 then none
  else some "late" else some "end" else some "begin" else some "episode" else some "show" else some "channel"
/-- the first wrong part of a rule -/
def wrongR (s f l p b a : Dt) : Option Str :=
  bif wordD s then bif isNum f 1 999 then bif isNum l (inI f) 999 then bif isNum p 1 9 then bif isNum b 0 60 then bif isNum a 0 60 then none
  else some "after" else some "before" else some "priority" else some "last" else some "first" else some "show"
def optD : Option Str → Dt
  | some z => .str z
  | none => .non
abbrev six (f : Dt → Dt → Dt → Dt → Dt → Dt → Option Str) : Ct := fun ss st ok _ => ∃ a b c d e g, ss = [.dat a, .dat b, .dat c, .dat d, .dat e, .dat g] ∧ Pln a ∧ Pln b ∧ Pln c ∧ Pln d ∧ Pln e ∧ Pln g ∧ ok (.dat (optD (f a b c d e g))) st
def ctWrongS : Ct := six wrongS
def ctWrongR : Ct := six wrongR
theorem isNum_int {x : Dt} {a b : Int} (h : isNum x a b = true) : ∃ i, x = .int i ∧ a ≤ i ∧ i ≤ b := by
  cases x with
  | int i => simp [isNum] at h; exact ⟨i, rfl, h.1, h.2⟩
  | _ => cases h
def fldS (a b c d e g : Dt) : List (Str × Dt) := [("_channel", a), ("_show", b), ("_episode", c), ("_begin", d), ("_end", e), ("_late", g)]
def fldR (a b c d e g : Dt) : List (Str × Dt) := [("_show", a), ("_first", b), ("_last", c), ("_priority", d), ("_before", e), ("_after", g)]
/-- __init__ of a sending | rule -/
abbrev initC (C X : Addr) (f : Dt → Dt → Dt → Dt → Dt → Dt → Option Str) (fl : Dt → Dt → Dt → Dt → Dt → Dt → List (Str × Dt)) : Ct := fun ss st ok ex => ∃ p st0 a b c d e g, ss = [.own p, .dat a, .dat b, .dat c, .dat d, .dat e, .dat g] ∧ st = (p, .ins C []) :: st0 ∧
  Pln a ∧ Pln b ∧ Pln c ∧ Pln d ∧ Pln e ∧ Pln g ∧ (∀ z, f a b c d e g = some z → ex ⟨X, [("part", .str z)]⟩ st0) ∧ (f a b c d e g = none → ok (.dat .non) ((p, .ins C ((fl a b c d e g).map fun x => (x.1, .dat x.2))) :: st0))
def ctInitS (C X : Addr) : Ct := initC C X wrongS fldS
def ctInitR (C X : Addr) : Ct := initC C X wrongR fldR
/-- a property -/
def ctGet (C : Addr) (f : Str) : Ct := fun ss st ok _ => ∃ fs d, ss = [.dat (.ins C fs)] ∧ fs.lookup f = some d ∧ ok (.dat d) st
/-- two sendings, two rules: a word, .. -/
structure Snd where
  channel : Str
  show_ : Str
  episode : Int
  begin_ : Int
  end_ : Int
  late : Int
deriving DecidableEq
structure Rul where
  show_ : Str
  first : Int
  last : Int
  priority : Int
  before : Int
  after : Int
deriving DecidableEq
def Snd.d (C : Addr) (x : Snd) : Dt := .ins C (fldS (.str x.channel) (.str x.show_) (.int x.episode) (.int x.begin_) (.int x.end_) (.int x.late))
def Rul.d (C : Addr) (x : Rul) : Dt := .ins C (fldR (.str x.show_) (.int x.first) (.int x.last) (.int x.priority) (.int x.before) (.int x.after))
abbrev obH (q : Addr) (a i : Int) : Ob := .lst [dI a, .own q, dI i]
abbrev obX (xs : List Int) : Ob := .lst (xs.map dI)
@[irreducible] def ctNext : Ct := fun ss st ok _ => ∃ (p q : Addr) (a i : Int) (xs : List Int) (lim : Int) (j1 j2 : Nat), ss = [.own p, dI lim] ∧ 0 < lim ∧ lim < 2 ^ 30 ∧ j1 ≠ j2 ∧ st[j1]? = some (p, obH q a i) ∧ st[j2]? = some (q, obX xs) ∧ xs.length ≤ 63 ∧
  ∀ n a' i' xs', 0 ≤ n → n < lim → xs'.length = xs.length → ok (dI n) ((st.set j1 (p, obH q a' i')).set j2 (q, obX xs'))
theorem ctNext_eq {ss : List Sv} {st : Store} {ok : OK} {ex : EK} : ctNext ss st ok ex = ∃ (p q : Addr) (a i : Int) (xs : List Int) (lim : Int) (j1 j2 : Nat), ss = [.own p, dI lim] ∧ 0 < lim ∧ lim < 2 ^ 30 ∧ j1 ≠ j2 ∧ st[j1]? = some (p, obH q a i) ∧ st[j2]? = some (q, obX xs) ∧ xs.length ≤ 63 ∧
  ∀ n a' i' xs', 0 ≤ n → n < lim → xs'.length = xs.length → ok (dI n) ((st.set j1 (p, obH q a' i')).set j2 (q, obX xs')) := by
  unfold ctNext
  rfl
theorem next_len {ss : List Sv} {st : Store} {ok : OK} {ex : EK} (h : ctNext ss st ok ex) : ss.length = 2 := by
  rw [ctNext_eq] at h
  obtain ⟨p, q, a, i, xs, lim, j1, j2, rfl, _⟩ := h
  rfl
/-- a draw: the source stands first | behind one, two objects -/
theorem next_at {p q : Addr} {a i lim : Int} {xs : List Int} {st : Store} {ok : OK} {ex : EK} (l0 : 0 < lim) (l1 : lim < 2 ^ 30) (hx : xs.length ≤ 63)
    (h : ∀ n a' i' xs', 0 ≤ n → n < lim → xs'.length ≤ 63 → ok (dI n) ((p, obH q a' i') :: (q, obX xs') :: st)) : ctNext [.own p, dI lim] ((p, obH q a i) :: (q, obX xs) :: st) ok ex := by
  rw [ctNext_eq]
  exact ⟨p, q, a, i, xs, lim, 0, 1, rfl, l0, l1, by decide, rfl, rfl, hx, fun n a' i' xs' n0 n1 e => h n a' i' xs' n0 n1 (by omega)⟩
theorem next_at1 {x : Addr × Ob} {p q : Addr} {a i lim : Int} {xs : List Int} {st : Store} {ok : OK} {ex : EK} (l0 : 0 < lim) (l1 : lim < 2 ^ 30) (hx : xs.length ≤ 63)
    (h : ∀ n a' i' xs', 0 ≤ n → n < lim → xs'.length ≤ 63 → ok (dI n) (x :: (p, obH q a' i') :: (q, obX xs') :: st)) : ctNext [.own p, dI lim] (x :: (p, obH q a i) :: (q, obX xs) :: st) ok ex := by
  rw [ctNext_eq]
  exact ⟨p, q, a, i, xs, lim, 1, 2, rfl, l0, l1, by decide, rfl, rfl, hx, fun n a' i' xs' n0 n1 e => h n a' i' xs' n0 n1 (by omega)⟩
def ctMix : Ct := fun ss st ok _ => ∃ (ns : List Int) (seed : Int), ss = [.dat (.fls (ns.map Dt.int)), dI seed] ∧ ns.length ≤ 63 ∧ ∀ p q a, p ≠ q → p ∉ keys st → q ∉ keys st → ok (.own p) ((p, obH q a 0) :: (q, obX ns) :: st)
/-- plain data, n deep -/
inductive Pl : Nat → Dt → Prop
  | non (n : Nat) : Pl (n + 1) .non
  | bl (n : Nat) (b : Bool) : Pl (n + 1) (.bl b)
  | int (n : Nat) (i : Int) : Pl (n + 1) (.int i)
  | str (n : Nat) (z : Str) : Pl (n + 1) (.str z)
  | lst {n : Nat} {ds : List Dt} (h : ∀ d ∈ ds, Pl n d) (l : ds.length ≤ sizeLine) : Pl (n + 1) (.lst ds)
  | tup {n : Nat} {ds : List Dt} (h : ∀ d ∈ ds, Pl n d) (l : ds.length ≤ sizeLine) : Pl (n + 1) (.tup ds)
end SP
namespace DD
open PySem PySem.Spec PyProof.Rows L2
def rSortP (K : PySem.W.Frag) : List V → Hp → VK → Prop := fun vs H Q => ∃ (a : Addr) (xs : List V) (β : Type) (bs : List β) (enc : β → PyData) (R : V → β → Prop), vs = [.ref a] ∧ SqL K H a xs ∧ Paired R xs bs ∧ DpAll K H xs (bs.map enc) ∧
  PySem.W.AllAlike (bs.map enc) ∧ PySem.W.Sortable (bs.map enc) ∧ (∀ b ∈ bs, (enc b).depth ≤ 30) ∧ ∀ ys p, Paired R ys (bs.mergeSort (PySem.W.dataLe false enc)) → H p = none → Q (.ref p) (upd H p (.lst ys))
theorem each_of {β : Type} {R : V → β → Prop} : ∀ {xs : List V} {bs : List β} {its : List Value}, Paired R xs bs → Vals xs its → PySem.W.EachIs (fun v b => ∃ x, RelV x v ∧ R x b) its bs
  | _, _, _, .nil, .nil => .nil
  | _, _, _, .cons h t, .cons r rs => .cons ⟨_, r, h⟩ (each_of t rs)
theorem each_to {β : Type} {R : V → β → Prop} : ∀ {bs : List β} {its : List Value}, PySem.W.EachIs (fun v b => ∃ x, RelV x v ∧ R x b) its bs → ∃ xs, Paired R xs bs ∧ Vals xs its
  | _, _, .nil => ⟨[], .nil, .nil⟩
  | _, _, .cons ⟨x, r, h⟩ t => by
    obtain ⟨xs, a, b⟩ := each_to t
    exact ⟨x :: xs, .cons h a, .cons r b⟩
theorem cr_sortP {X : Cx} (hu : X.A.units + 65 < cLine) : CallR X (.builtin "sorted") (rSortP X.K) := by
  intro pins s σ H vs us Q I r h
  obtain ⟨a, xs, β, bs, enc, R, rfl, hs, hp, hd, hal, hk, hdep, q⟩ := h
  obtain ⟨its, rv, hl, hz⟩ := I.list hs
  rw [Vals.ref1 r]
  obtain ⟨as, hr⟩ := Dp.readsAll I _ _ _ hd rv
  have hlen : xs.length = bs.length := paired_len hp
  refine PySem.W.sorted_data (R := fun v b => ∃ x, RelV x v ∧ R x b) hl.isList (each_of hp rv) (PySem.W.readsAll_each enc hr) hal hk (by rw [← hlen]; exact hz) (fun b hb => by have := hdep b hb; omega) fun out ho eo => ?_
  obtain ⟨ys, py, vy⟩ := each_to eo
  obtain ⟨ep, he'⟩ := PyProof.Rows.sortedAll_at s.heap its (List.toArray out)
  have hly : ys.length ≤ sizeLine := by rw [vy.length, ho, ← hlen]; exact hz
  exact ⟨.ref _, upd H (s.heap.objs.size + 1) (.lst ys), I.laid (t' := s.toks) (fun _ _ => PyProof.Rows.sortedAll_old) (Nat.le_succ _) ⟨hly, out, ep, vy, he'⟩, rfl, q ys _ py (I.hok.fresh (Nat.le_succ _))⟩
def gSortP : GC := fun xs st ok => match xs with
  | [x] => withL x st fun ys => ∃ (β : Type) (bs : List β) (e : β → Dt) (enc : β → PyData), ys = bs.map (fun b => Sv.dat (e b)) ∧ (∀ b, PyOf (e b) (enc b)) ∧ PySem.W.AllAlike (bs.map enc) ∧ PySem.W.Sortable (bs.map enc) ∧ (∀ b ∈ bs, (enc b).depth ≤ 30) ∧
    ok (.dat (.lst ((bs.mergeSort (PySem.W.dataLe false enc)).map e))) st
  | _ => False
theorem one_arg {K : PySem.W.Frag} {I : Hp} {x : Sv} {vs : List V} (h : IsSs K I [x] vs) : ∃ v, vs = [v] ∧ IsS K I x v := by
  cases h with
  | cons a r => cases r; exact ⟨_, rfl, a⟩
theorem paired_map_l {K : PySem.W.Frag} {I : Hp} {β : Type} {e : β → Dt} : ∀ {bs : List β} {vs : List V}, IsSs K I (bs.map fun b => Sv.dat (e b)) vs → Paired (fun v b => IsD K I (e b) v) vs bs
  | [], _, .nil => .nil
  | b :: bs, _, .cons (.dat h) t => .cons h (paired_map_l t)
theorem paired_back_l {K : PySem.W.Frag} {I : Hp} {β : Type} {e : β → Dt} : ∀ {bs : List β} {vs : List V}, Paired (fun v b => IsD K I (e b) v) vs bs → IsDs K I (bs.map e) vs
  | [], _, .nil => .nil
  | b :: bs, _, .cons h t => .cons h (paired_back_l t)
theorem dps_of {K : PySem.W.Frag} {st : Store} {I H : Hp} (w : Wd K st I H) {β : Type} {e : β → Dt} {enc : β → PyData} (h : ∀ b, PyOf (e b) (enc b)) : ∀ {bs : List β} {vs : List V}, Paired (fun v b => IsD K I (e b) v) vs bs → DpAll K H vs (bs.map enc)
  | [], _, .nil => .nil
  | b :: bs, _, .cons a t => .cons ((h b).dp w a) (dps_of w h t)
theorem lc_sortP {K : PySem.W.Frag} : LRC (K := K) (rSortP K) gSortP := by
  intro xs st I H ok Q vs wd ix h c
  unfold gSortP at h
  split at h
  · obtain ⟨v, rfl, i⟩ := one_arg ix
    obtain ⟨a, us, ys, rfl, hs, hp, β, bs, e, enc, rfl, he, h1, h2, h3, h⟩ := withL_rd wd i h
    have hpp := paired_map_l hp
    refine ⟨a, us, β, bs, enc, _, rfl, hs, hpp, dps_of wd he hpp, h1, h2, h3, fun ys p hy hn => ?_⟩
    obtain ⟨w2, s2⟩ := new_known (o := .lst ys) wd hn
    exact c _ _ _ _ _ h w2 s2 (.dat (.lst upd_same ((paired_back_l hy).mono (Ex.new (wd.sub.none hn)))))
  · exact h.elim
theorem minD_mem (x : PyData) : ∀ xs, PySem.W.minD x xs ∈ x :: xs := by
  intro xs
  unfold PySem.W.minD
  induction xs generalizing x with
  | nil => exact List.mem_cons_self
  | cons y ys ih =>
    rw [List.foldl_cons]
    by_cases h : PySem.W.dataLt y x = true
    · rw [if_pos h]
      have := ih y
      exact List.mem_cons_of_mem _ this
    · rw [if_neg h]
      have := ih x
      rcases List.mem_cons.mp this with e | e
      · rw [e]; exact List.mem_cons_self
      · exact List.mem_cons_of_mem _ (List.mem_cons_of_mem _ e)
theorem maxD_mem (x : PyData) : ∀ xs, PySem.W.maxD x xs ∈ x :: xs := by
  intro xs
  unfold PySem.W.maxD
  induction xs generalizing x with
  | nil => exact List.mem_cons_self
  | cons y ys ih =>
    rw [List.foldl_cons]
    by_cases h : PySem.W.dataLt x y = true
    · rw [if_pos h]
      have := ih y
      exact List.mem_cons_of_mem _ this
    · rw [if_neg h]
      have := ih x
      rcases List.mem_cons.mp this with e | e
      · rw [e]; exact List.mem_cons_self
      · exact List.mem_cons_of_mem _ (List.mem_cons_of_mem _ e)
def rBestP (K : PySem.W.Frag) (best : PyData → List PyData → PyData) : List V → Hp → VK → Prop := fun vs H Q => ∃ (a : Addr) (xs : List V) (β : Type) (b0 : β) (bs : List β) (enc : β → PyData) (R : V → β → Prop), vs = [.ref a] ∧ SqL K H a xs ∧ Paired R xs (b0 :: bs) ∧ DpAll K H xs ((b0 :: bs).map enc) ∧
  PySem.W.AlikeAll ((b0 :: bs).map enc) ∧ PyData.depthAll ((b0 :: bs).map enc) ≤ 30 ∧ ∀ x b, b ∈ b0 :: bs → R x b → enc b = best (enc b0) (bs.map enc) → Q x H
theorem best_at {X : Cx} {pins : List (Addr × Obj)} {σ : L2.St} {H : Hp} {s : Shared} {β : Type} {R : V → β → Prop} {enc : β → PyData} {xs : List V} {bs : List β} {its : List Value} {as : List Addr} {d : PyData} (hp : Paired R xs bs) (rv : Vals xs its) (hr : ReadsAll s.heap its (bs.map enc) as)
    (ha : PySem.W.AlikeAll (bs.map enc)) (hd : d ∈ bs.map enc) {i : Nat} {v : Value} {h' : Heap} {as' : List Addr} (hv : its[i]? = some v) (r : Reads h' v d as') (k : ∀ b o, s.heap.get? b = some o → h'.get? b = some o) : ∃ x b, b ∈ bs ∧ R x b ∧ RelV x v ∧ enc b = d := by
  have key : ∀ {xs : List V} {bs : List β} {its : List Value} {as : List Addr}, Paired R xs bs → Vals xs its → ReadsAll s.heap its (bs.map enc) as → ∀ {i : Nat}, its[i]? = some v → ∃ x b as'', b ∈ bs ∧ R x b ∧ RelV x v ∧ Reads s.heap v (enc b) as'' := by
    intro xs bs its as hp
    induction hp generalizing its as with
    | nil => intro rv hr i hv; cases rv; simp at hv
    | cons h t ih =>
      intro rv hr i hv
      cases rv with
      | cons r0 rs =>
        cases hr with
        | cons q0 qs =>
          cases i with
          | zero =>
            simp at hv
            subst hv
            exact ⟨_, _, _, List.mem_cons_self, h, r0, q0⟩
          | succ i =>
            obtain ⟨x, b, as'', h1, h2, h3, h4⟩ := ih rs qs (i := i) (by simpa using hv)
            exact ⟨x, b, as'', List.mem_cons_of_mem _ h1, h2, h3, h4⟩
  obtain ⟨x, b, as'', h1, h2, h3, h4⟩ := key hp rv hr hv
  exact ⟨x, b, h1, h2, h3, PySem.W.alike_unique (h := h') _ _ v _ _ (ha.1 _ (List.mem_map.mpr ⟨b, h1, rfl⟩) _ hd) (PySem.W.reads_keeps k h4) r⟩
theorem cr_minP {X : Cx} (hc : X.calm = true) (hu : X.A.units + 65 < cLine) : CallR X (.builtin "min") (rBestP X.K PySem.W.minD) := by
  intro pins s σ H vs us Q I r h
  obtain ⟨a, xs, β, b0, bs, enc, R, rfl, hs, hp, hd, hal, hdep, q⟩ := h
  obtain ⟨its, rv, hl, hz⟩ := I.list hs
  rw [Vals.ref1 r]
  obtain ⟨as, hr⟩ := Dp.readsAll I _ _ _ hd rv
  refine PySem.W.min_list_data (x := enc b0) (xs := bs.map enc) (I.ok.hd hc) hl.isList hr hal (by rw [List.map_cons] at hdep; omega) fun i v h' tk as' hv hrd hk => ?_
  obtain ⟨x, b, h1, h2, h3, h4⟩ := best_at (X := X) (pins := pins) (σ := σ) (H := H) hp rv hr hal (minD_mem _ _) (by simpa using hv) hrd hk
  exact ⟨x, H, I.kept hk, h3, q x b h1 h2 h4⟩
theorem cr_maxP {X : Cx} (hc : X.calm = true) (hu : X.A.units + 65 < cLine) : CallR X (.builtin "max") (rBestP X.K PySem.W.maxD) := by
  intro pins s σ H vs us Q I r h
  obtain ⟨a, xs, β, b0, bs, enc, R, rfl, hs, hp, hd, hal, hdep, q⟩ := h
  obtain ⟨its, rv, hl, hz⟩ := I.list hs
  rw [Vals.ref1 r]
  obtain ⟨as, hr⟩ := Dp.readsAll I _ _ _ hd rv
  refine PySem.W.max_list_data (x := enc b0) (xs := bs.map enc) (I.ok.hd hc) hl.isList hr hal (by rw [List.map_cons] at hdep; omega) fun i v h' tk as' hv hrd hk => ?_
  obtain ⟨x, b, h1, h2, h3, h4⟩ := best_at (X := X) (pins := pins) (σ := σ) (H := H) hp rv hr hal (maxD_mem _ _) (by simpa using hv) hrd hk
  exact ⟨x, H, I.kept hk, h3, q x b h1 h2 h4⟩
def gBestP (best : PyData → List PyData → PyData) : GC := fun xs st ok => match xs with
  | [x] => withL x st fun ys => ∃ (β : Type) (b0 : β) (bs : List β) (e : β → Dt) (enc : β → PyData), ys = (b0 :: bs).map (fun b => Sv.dat (e b)) ∧ (∀ b, PyOf (e b) (enc b)) ∧ PySem.W.AlikeAll ((b0 :: bs).map enc) ∧ PyData.depthAll ((b0 :: bs).map enc) ≤ 30 ∧
    ∀ b, b ∈ b0 :: bs → enc b = best (enc b0) (bs.map enc) → ok (.dat (e b)) st
  | _ => False
theorem lc_bestP {K : PySem.W.Frag} {best : PyData → List PyData → PyData} : LRC (K := K) (rBestP K best) (gBestP best) := by
  intro xs st I H ok Q vs wd ix h c
  unfold gBestP at h
  split at h
  · obtain ⟨v, rfl, i⟩ := one_arg ix
    obtain ⟨a, us, ys, rfl, hs, hp, β, b0, bs, e, enc, rfl, he, h1, h2, h⟩ := withL_rd wd i h
    have hpp := paired_map_l hp
    exact ⟨a, us, β, b0, bs, enc, _, rfl, hs, hpp, dps_of wd he hpp, h1, h2, fun x b hb hx hm => c.now wd (h b hb hm) (.dat hx)⟩
  · exact h.elim
end DD
namespace DD
open PySem PySem.Spec PyProof.Rows L2
def keysOf : List Dt → Option (List Key)
  | [] => some []
  | d :: ds => match keyD d, keysOf ds with
    | some k, some ks => some (k :: ks)
    | _, _ => none
def keyT : Dt → Option (List Key)
  | .tup ds => keysOf ds
  | _ => none
section
variable {K : PySem.W.Frag} {W : WX} {st : Store} {I H : Hp}
theorem keys_are : ∀ {ds : List Dt} {vs : List V} {ks : List Key}, IsDs K I ds vs → keysOf ds = some ks → vs = ks.map kV
  | [], _, _, .nil, e => by cases e; rfl
  | d :: ds, _, _, .cons h t, e => by
    unfold keysOf at e
    cases e1 : keyD d with
    | none => rw [e1] at e; cases e
    | some k =>
      cases e2 : keysOf ds with
      | none => rw [e1, e2] at e; cases e
      | some ks =>
        rw [e1, e2] at e
        cases e
        rw [key_is h e1, keys_are t e2]
        rfl
theorem keyT_is {d : Dt} {v : V} {k : List Key} (w : Wd K st I H) (h : IsD K I d v) (e : keyT d = some k) : ∃ b, v = .ref b ∧ I b = some (.tup (k.map kV)) ∧ H b = some (.tup (k.map kV)) := by
  cases h with
  | tup h1 h2 =>
    have e' := keys_are h2 e
    subst e'
    exact ⟨_, rfl, h1, w.sub.at h1 (by intro k z; cases z) (by intro k z; cases z)⟩
  | _ => cases e
def dDGet2 (td ty tx : DE) : DE := fun Δ st ok ex => td Δ st (fun x st1 => withK x st1 (fun _ => True) ∧ ty Δ st1 (fun y st2 => tx Δ st2 (fun z st3 => match y with
  | .dat dy => withK x st3 fun xs => ∃ k, keyD dy = some k ∧ ok ((getD xs k).getD z) st3
  | _ => False) ex) ex) ex
theorem getD_iss {κ : Type} [DecidableEq κ] {xs : List (κ × Sv)} {vs : List (κ × V)} (hp : Paired (RK K I) xs vs) (k : κ) {z : Sv} {zv : V} (iz : IsS K I z zv) : IsS K I ((getD xs k).getD z) ((getD vs k).getD zv) := by
  cases q : getD xs k with
  | none => rw [(rk_get hp).2 q]; exact iz
  | some s =>
    obtain ⟨v', hv, iv⟩ := (rk_get hp).1 s q
    rw [hv]
    exact iv
theorem low_dget2 {td ty tx : DE} : ∀ σ H Q, low K (dDGet2 td ty tx) W σ H Q → tDGet2 (low K td W) (low K ty W) (low K tx W) σ H Q := by
  rintro σ H Q ⟨Δ, st, I, ok, ex, wd, sl, h, c, cx⟩
  refine low_go wd sl h (fun x st1 v I1 H1 h1 w1 s1 i1 => ?_) cx
  obtain ⟨a, vs, xs, rfl, hd, _⟩ := withK_rd w1 i1 h1.1
  refine ⟨a, rfl, .inl ⟨vs, hd⟩, ?_⟩
  refine low_go w1 (sl.mono s1.ii) h1.2 (fun y st2 u I2 H2 h2 w2 s2 i2 => ?_) (cx.go s1)
  refine low_go w2 ((sl.mono s1.ii).mono s2.ii) h2 (fun z st3 zv I3 H3 h3 w3 s3 i3 => ?_) ((cx.go s1).go s2)
  cases i2 with
  | own p => exact h3.elim
  | dat hy =>
    obtain ⟨a', vs, xs, e, hd, hp, k, hk, h3⟩ := withK_rd w3 ((i1.mono s2.ii).mono s3.ii) h3
    cases e
    have eq := key_is hy hk
    subst eq
    exact ⟨_, .inl ⟨vs, k, hd, rfl, rfl⟩, by rw [getD_V]; exact (c.go ((s1.trans s2).trans s3)).now w3 h3 (getD_iss hp k i3)⟩
end
section
variable {X : Cx} {W : WX} {a b o e : Expr} {to te ta tb : DE} {pos p : Pos}
theorem ddget2 {f : Expr} {apos cpos : Pos} {tx : DE} (hu : X.A.units + 1 < cLine) (ho : PEd X W o to) (he : PEd X W e te) (hf : PEd X W f tx) (m : M2 X o "get" apos e f cpos := by exact ⟨rfl, rfl, rfl, rfl⟩) : PEd X W (.Call (.Attribute o "get" apos) [e, f] [] cpos) (dDGet2 to te tx) := PE.imp (pe_dget2 hu ho he hf m) low_dget2
end
end DD
namespace DD
open PySem PySem.Spec PyProof.Rows L2
@[irreducible] def whileD (c : DT) (body : DS) (Δ : List Sv) (st : Store) (N : DN) : Prop := ∃ J : Nat → List Sv → Store → Prop, (∃ m, J m Δ st) ∧
  ∀ m Δ' st', J m Δ' st' → c Δ' st' (fun b st1 => (b = true → body Δ' st1 { N with nx := fun Δ2 st2 => ∃ m', m' < m ∧ J m' Δ2 st2, ct := fun Δ2 st2 => ∃ m', m' < m ∧ J m' Δ2 st2, bk := N.nx }) ∧ (b = false → N.nx Δ' st1)) (exAt N Δ')
theorem whileD_eq (c : DT) (body : DS) (Δ : List Sv) (st : Store) (N : DN) : whileD c body Δ st N = (∃ J : Nat → List Sv → Store → Prop, (∃ m, J m Δ st) ∧
  ∀ m Δ' st', J m Δ' st' → c Δ' st' (fun b st1 => (b = true → body Δ' st1 { N with nx := fun Δ2 st2 => ∃ m', m' < m ∧ J m' Δ2 st2, ct := fun Δ2 st2 => ∃ m', m' < m ∧ J m' Δ2 st2, bk := N.nx }) ∧ (b = false → N.nx Δ' st1)) (exAt N Δ')) := by
  unfold whileD
  rfl
def dWhile (c : DT) (body : DS) : DS := fun Δ st N => whileD c body Δ st N
theorem lowS_while {K : PySem.W.Frag} {W : WX} {c : DT} {body : DS} : ∀ D σ H, lowS K (dWhile c body) W D σ H → tWhile (lowT K c W) (lowS K body W) D σ H := by
  rintro D σ H ⟨Δ, st, I, N, wd, sl, h, e⟩
  unfold dWhile at h
  rw [whileD_eq] at h
  obtain ⟨J, ⟨m0, j0⟩, jt⟩ := h
  refine ⟨fun m σ' H' => ∃ Δ' st' I', J m Δ' st' ∧ Wd K st' I' H' ∧ Sl K Δ' I' σ' ∧ Stp st I H st' I' H', ⟨m0, Δ, st, I, j0, wd, sl, Stp.refl _ _ _⟩, ?_⟩
  rintro m σ' H' ⟨Δ', st', I', hj, w', l', s'⟩
  have e' := e.go s'
  refine lowT_go w' l' (jt m Δ' st' hj) (fun b st1 I1 H1 h1 w1 s1 => ?_) (cx_of l' e')
  cases b with
  | true =>
    refine iteT ⟨fun σ2 H2 => ∃ m', m' < m ∧ ∃ Δ2 st2 I2, J m' Δ2 st2 ∧ Wd K st2 I2 H2 ∧ Sl K Δ2 I2 σ2 ∧ Stp st I H st2 I2 H2, fun σ2 H2 z => z, ?_⟩
    have e1 := e'.go s1
    exact lowS_go w1 (l'.mono s1.ii) (h1.1 rfl) ⟨fun Δ2 st2 σ2 I2 H2 ⟨m', hm, hj2⟩ w2 s2 l2 => ⟨m', hm, Δ2, st2, I2, hj2, w2, l2, (s'.trans s1).trans s2⟩, e1.rt, e1.nx, fun Δ2 st2 σ2 I2 H2 ⟨m', hm, hj2⟩ w2 s2 l2 => ⟨m', hm, Δ2, st2, I2, hj2, w2, l2, (s'.trans s1).trans s2⟩, e1.ex⟩
  | false => exact iteF (e'.nx _ _ _ _ _ (h1.2 rfl) w1 s1 (l'.mono s1.ii))
theorem swhile {X : Cx} {W : WX} {c : Expr} {ss : List Stmt} {pos : Pos} {tc : DT} {t : DS} (hp : PassesOwn (model X.prog X.w) X.A X.env X.xe) (hc : PTd X W c tc) (hb : PBd X W ss t) (hcalm : X.calm = true := by rfl) : PSd X W (.While c ss [] pos) (dWhile tc t) := PS.imp (ps_while hp hc hb) lowS_while
end DD
namespace DD
open PySem PySem.Spec PyProof.Rows L2
theorem ssetLc {X : Cx} {W : WX} {y : Str} {py : Pos} {elt tg iter : Expr} {ifs : List Expr} {scope : Scope} {pos spos : Pos} {it : DI} {g : DG} {tt : DT} {te : DE} (i : Nat) (own : List (Str × Nat)) (hN : X.N.Nodup) (hi : PId X W tg iter it) (ok : BlkOk X.N X.env.scope scope own)
    (hg : ∀ (s : Shared) (H : Hp) (C : Addr) (cl : List (Str × Addr)) (fp : List Addr), PGw (X.blk s H scope (compEnvC scope cl C X.env) fp) (own.map (·.2)) tg g) (ht : ∀ (s : Shared) (H : Hp) (C : Addr) (cl : List (Str × Addr)) (fp : List Addr), PTsd (X.blk s H scope (compEnvC scope cl C X.env) fp) ifs tt)
    (he : ∀ (s : Shared) (H : Hp) (C : Addr) (cl : List (Str × Addr)) (fp : List Addr), PEd (X.blk s H scope (compEnvC scope cl C X.env) fp) W0 elt te) (hc : X.calm = true := by rfl) (hy : X.N[i]? = some y := by rfl) (hyl : X.env.scope.names.lookup y = some .local := by rfl)
    (hsw : swapsWith (.ListComp elt [⟨tg, iter, ifs, 0⟩] scope pos) (some (.Name y py)) spos.line X.env = pure true := by rfl) (hs : ∀ x, foldedSetIterable iter X.env x = pure x := by intro _; rfl) :
    PSd X W (.Assign [.Name y py] (.ListComp elt [⟨tg, iter, ifs, 0⟩] scope pos) spos) (dAsg i (dLc it g tt te (own.map (·.2)))) :=
  PS.imp (ps_setLc hc hN hy hyl hsw hi ok hg ht he hs) fun D σ H h => low_lc _ _ _ (lowS_asg D σ H h)
end DD
namespace DD
open PySem PySem.Spec PyProof.Rows L2
def rInO (C : Addr) (sp : Sp) (neg : Bool) : R2 := fun x y H Q => ∃ b dy gs, y = .ref b ∧ H b = some (.ins C dy gs) ∧ sp [.ref b, x] H (fun v H' => ∃ k, v = .bl k ∧ Q (.bl (if neg then !k else k)) H') E0
theorem op_niO {X : Cx} {C f : Addr} {fd : FuncData} {ps : List Str} {sp : Sp} {k : Nat} (F : FnOk X.prog X.w X.K X.mg X.base (L2.CX X.prog X.w) k f fd ps sp) (hs : PySem.W.findIn X.K (.ref C) "__contains__" = some (some (.ref f))) (hf : PySem.W.isFn X.K (.ref f) = true) (hb : Binds X.K fd ps []) (hr : Room k X.A) : OpR X (compareOp .NotIn) (rInO C sp true) := by
  intro pins s σ H x y v u Q I rx ry h
  obtain ⟨b, dy, gs, rfl, hb', q⟩ := h
  obtain rfl : u = Value.ref b := ry
  obtain ⟨mB, J', _⟩ := ins_get I.hok hb'
  obtain ⟨od', J', _⟩ := J'.look
  obtain ⟨m, fr⟩ := I.fr
  apply PySem.W.notIn_K fr I.ok.mod.kin J' hs hf
  apply wpAny_call
  have len : ([Value.ref b, v] ++ []).length = ps.length := by rw [← F.len _ _ _ _ q]; rfl
  apply codeAny_mono (F.run X.A X.stack s H ⟨[.ref b, v], []⟩ ([.ref b, v] ++ []) [.ref b, x] _ E0 hr I.env0 (hb _ [.ref b, v] I.kIn len) (.cons rfl (.cons rx .nil)) q)
  intro res s3 hres
  match res, hres with
  | .error er, z => exact passL pins σ H s er s3 I z
  | .ok (.ret w'), z =>
    obtain ⟨v', H2, I2, rv, k, ev, q2⟩ := I.after z
    subst ev
    have ew : w' = Value.bool k := rv
    subst ew
    exact wpAny_truthy_bool ⟨.bl (!k), H2, I2, rfl, q2⟩
  | .ok .next, z => exact False.elim z
  | .ok .brk, z => exact False.elim z
  | .ok .cont, z => exact False.elim z
def gInO (C : Addr) (ct : Ct) (neg : Bool) : G2 := fun x y st ok => match y with
  | .dat (.ins D gs) => D = C ∧ ct [.dat (.ins D gs), x] st (fun s st' => ∃ b, s = .dat (.bl b) ∧ ok (.dat (.bl (if neg then !b else b))) st') fun _ _ => False
  | _ => False
theorem lr_inO {K : PySem.W.Frag} {C : Addr} {ct : Ct} {neg : Bool} : LR2 K (rInO C (lowF K ct) neg) (gInO C ct neg) := by
  intro x y st I H ok Q v w wd ix iy h c
  cases iy with
  | own p => exact h.elim
  | dat hy =>
    cases hy with
    | ins a2 b2 =>
      obtain ⟨rfl, h⟩ := h
      refine ⟨_, _, _, rfl, wd.sub.at a2 (by intro k z; cases z) (by intro k z; cases z), _, st, I, _, _, wd, .cons (.dat (.ins a2 b2)) (.cons ix .nil), h, fun s st' v' I' H' h' w' s' i' => ?_, fun _ _ _ _ _ _ z => z.elim⟩
      obtain ⟨k, rfl, h'⟩ := h'
      cases i' with
      | dat hz =>
        cases hz
        exact ⟨k, rfl, c _ _ _ _ _ h' w' s' (.dat (.bl _))⟩
    | _ => exact h.elim
def dDcK (te : DE) (g : DG) (tt : DT) (tk tv : DE) (vs : List Nat) : DE := fun Δ st ok ex => te Δ st (fun x st1 => match x with
  | .dat (.dic ds) => dcD g tt tk tv vs (keysD ds) Δ st1 ok
  | .dat (.dtt ds) => dcD g tt tk tv vs (keysTD ds) Δ st1 ok
  | _ => False) ex
theorem low_dcK {K : PySem.W.Frag} {X : Cx} {W : WX} {te tk tv : DE} {g : DG} {tt : DT} {ns : List Nat} : ∀ σ H Q, low K (dDcK te g tt tk tv ns) W σ H Q → tDc (iKeys (lockE X (low K te W))) (lowGw K ns g) (lowT K tt W0) (low K tk W0) (low K tv W0) ns σ H fun v H' => Lk X H' (Q v) := by
  rintro σ H Q ⟨Δ, st, I, ok, ex, wd, sl, h, c, cx⟩
  refine low_go wd sl h (fun x st1 v I1 H1 h1 w1 s1 i1 => ?_) cx
  cases i1 with
  | own p => exact h1.elim
  | dat hd =>
    have c1 := c.go s1
    have l1 := sl.mono s1.ii
    cases hd with
    | @dic ds vs a r hk =>
      rcases w1.sub.rd r with hH | ⟨o, hH⟩
      · rcases r with hI | ⟨o, hI⟩
        · refine .inr ⟨a, _, hH, trivial, fun od nf => ⟨a, od, rfl, .inl ⟨vs, upd_same, fun D hD => ?_⟩⟩⟩
          have w2 := lock_w (od := od) w1 (.inl ⟨_, rfl⟩) hI hH
          exact dc_go w2 l1 h1 (wk_keys w2 (notkey w1 hI) upd_same hk) (cont_L c1 w1 hI hH nf) D hD
        · rcases w1.sub a _ hI with q | ⟨q | q, _⟩
          · rw [hH] at q; cases q
          · obtain ⟨_, q⟩ := q; cases q
          · obtain ⟨_, q⟩ := q; cases q
      · have nk : a ∉ keys st1 := by
          rcases r with hI | ⟨o, hI⟩
          · exact notkey w1 hI
          · exact notkey w1 hI
        exact .inl ⟨a, o, rfl, .inl ⟨vs, hH, fun D hD => dc_go w1 l1 h1 (wk_keys w1 nk hH hk) (cont_U c1) D hD⟩⟩
    | @dtt ds vs a r hk =>
      rcases w1.sub.rd r with hH | ⟨o, hH⟩
      · rcases r with hI | ⟨o, hI⟩
        · refine .inr ⟨a, _, hH, trivial, fun od nf => ⟨a, od, rfl, .inr ⟨vs, upd_same, fun D hD => ?_⟩⟩⟩
          have w2 := lock_w (od := od) w1 (.inr ⟨_, rfl⟩) hI hH
          exact dc_go w2 l1 h1 (wk_keysT w2 (notkey w1 hI) upd_same hk) (cont_L c1 w1 hI hH nf) D hD
        · rcases w1.sub a _ hI with q | ⟨q | q, _⟩
          · rw [hH] at q; cases q
          · obtain ⟨_, q⟩ := q; cases q
          · obtain ⟨_, q⟩ := q; cases q
      · have nk : a ∉ keys st1 := by
          rcases r with hI | ⟨o, hI⟩
          · exact notkey w1 hI
          · exact notkey w1 hI
        exact .inl ⟨a, o, rfl, .inr ⟨vs, hH, fun D hD => dc_go w1 l1 h1 (wk_keysT w1 nk hH hk) (cont_U c1) D hD⟩⟩
    | _ => exact h1.elim
theorem ddcK {X : Cx} {W : WX} {kx vx tg iter : Expr} {ifs : List Expr} {scope : Scope} {pos : Pos} {ti tk tv : DE} {g : DG} {tt : DT} (own : List (Str × Nat)) (hN : X.N.Nodup) (hi : PEd X W iter ti) (ok : BlkOk X.N X.env.scope scope own)
    (hg : ∀ (s : Shared) (H : Hp) (C : Addr) (cl : List (Str × Addr)) (fp : List Addr), PGw (X.blk s H scope (compEnvC scope cl C X.env) fp) (own.map (·.2)) tg g) (ht : ∀ (s : Shared) (H : Hp) (C : Addr) (cl : List (Str × Addr)) (fp : List Addr), PTsd (X.blk s H scope (compEnvC scope cl C X.env) fp) ifs tt)
    (hk : ∀ (s : Shared) (H : Hp) (C : Addr) (cl : List (Str × Addr)) (fp : List Addr), PEd (X.blk s H scope (compEnvC scope cl C X.env) fp) W0 kx tk) (he : ∀ (s : Shared) (H : Hp) (C : Addr) (cl : List (Str × Addr)) (fp : List Addr), PEd (X.blk s H scope (compEnvC scope cl C X.env) fp) W0 vx tv)
    (hc : X.calm = true := by rfl) (hs : ∀ x, foldedSetIterable iter X.env x = pure x := by intro _; rfl) : PEd X W (.DictComp kx vx [⟨tg, iter, ifs, 0⟩] scope pos) (dDcK ti g tt tk tv (own.map (·.2))) := PE.imp (pe_unl (pe_dc hc hN (pi_keys (pe_lockE hi)) ok hg ht hk he hs)) low_dcK
def dIndex (to te : DE) : DE := fun Δ st ok ex => to Δ st (fun x st1 => match x with
  | .dat (.lst es) => te Δ st1 (fun y st2 => match y with
    | .dat d => ∃ (p : PyData) (qs : List PyData) (j : Nat) (z : PyData), PyOf d p ∧ PyOfs es qs ∧ SeqAt.shaped (.list qs) = true ∧ SeqAt.shaped p = true ∧ qs[j]? = some z ∧ PyData.eqv z p = true ∧ (∀ (m : Nat) (z' : PyData), m < j → qs[m]? = some z' → PyData.eqv z' p = false) ∧ ok (.dat (.int (j : Nat))) st2
    | _ => False) ex
  | _ => False) ex
theorem low_index {K : PySem.W.Frag} {W : WX} {to te : DE} : ∀ σ H Q, low K (dIndex to te) W σ H Q → tBM K "list" (rIndexD K) (low K to W) (tCons (low K te W) tNil) σ H Q := by
  rintro σ H Q ⟨Δ, st, I, ok, ex, wd, sl, h, c, cx⟩
  refine low_go wd sl h (fun x st1 v I1 H1 h1 w1 s1 i1 => ?_) cx
  cases i1 with
  | own p => exact h1.elim
  | dat hd =>
    cases hd with
    | lst a b =>
      refine ⟨.inl ⟨rfl, _, w1.sub.sl (.inl (.inl a))⟩, ?_⟩
      refine low_go w1 (sl.mono s1.ii) h1 (fun y st2 u I2 H2 h2 w2 s2 i2 => ?_) (cx.go s1)
      cases i2 with
      | own p => exact h2.elim
      | dat hy =>
        obtain ⟨p, qs, j, z, g1, g2, g3, g4, g5, g6, g7, h2⟩ := h2
        exact ⟨_, u, p, qs, j, z, rfl, rfl, .lst (w2.sub.sl (.inl (.inl (s2.ii _ _ a)))) (g2.dp w2 (b.mono s2.ii)), g1.dp w2 hy, g3, g4, g5, g6, g7, (c.go (s1.trans s2)).now w2 h2 (.dat (.int _))⟩
    | _ => exact h1.elim
theorem dindex {X : Cx} {W : WX} {o e : Expr} {apos pos : Pos} {to te : DE} (hu : X.A.units + 65 < cLine) (ho : PEd X W o to) (he : PEd X W e te) (hbase : attributeBase o "index" X.env (eval o X.env) = eval o X.env := by rfl)
    (hfew : ((backTo pos (starEach [e] X.env)).all (fun x => !x.1) && (backToKw pos (keywordEach [] X.env)).all (fun x => x.1.isSome) && decide (([e] : List Expr).length + ([] : List Keyword).length + (if ([] : List Keyword).isEmpty then 0 else 1) < 30)) = true := by rfl)
    (hline : (apos.endLine == pos.line) = true := by rfl) (hs : starEach [e] X.env = (false, eval e X.env) :: starEach [] X.env := by rfl) (hplain : (backTo pos (starEach [] X.env)).any (·.1) = false := by rfl) : PEd X W (.Call (.Attribute o "index" apos) [e] [] pos) (dIndex to te) :=
  PE.imp (pe_bm PySem.F.plainAttrs_list PySem.F.slot_list_index PySem.F.type_list_index (mt_indexD hu) ho (pa_cons he pa_nil hs) hbase hfew hline hs hplain) low_index
end DD
namespace SP
open PySem PySem.Spec PyProof.Rows L2 DD
abbrev Ep := Str × Int
def epD (e : Ep) : Dt := .tup [.str e.1, .int e.2]
def epP (e : Ep) : PyData := .tuple [.str e.1, .int e.2]
theorem word_ok {z : Str} (h : isWord z = true) : PyData.strOk z = true := by
  unfold isWord at h
  rw [Bool.and_eq_true] at h
  have h2 := List.all_eq_true.mp h.2
  unfold PyData.strOk
  rw [← Array.all_toList, List.all_eq_true]
  intro c hc
  have := h2 c hc
  rw [Bool.and_eq_true, decide_eq_true_iff, decide_eq_true_iff] at this
  exact decide_eq_true (by omega)
theorem word_len {z : Str} (h : isWord z = true) : z.length ≤ sizeLine := by
  unfold isWord at h
  rw [Bool.and_eq_true, Bool.and_eq_true] at h
  have := of_decide_eq_true h.1.2
  rw [sizeLine_eq]
  omega
theorem ep_of (e : Ep) : PyOf (epD e) (epP e) := .tup (.cons (.str _) (.cons (.int _) .nil))
theorem eps_of : ∀ es : List Ep, PyOfs (es.map epD) (es.map epP)
  | [] => .nil
  | e :: es => .cons (ep_of e) (eps_of es)
theorem ep_shaped (e : Ep) (h : isWord e.1 = true) : SeqAt.shaped (epP e) = true := by
  have hs : PyData.strOk e.1 = true := word_ok h
  have hc : (epP e).canLay0 = true := by simp [epP, PyData.canLay0, PyData.canLayAll0, hs]
  have hd : (epP e).depth ≤ 64 := by simp [epP, PyData.depth, PyData.depthAll]
  unfold SeqAt.shaped
  rw [hc, decide_eq_true hd]
  rfl
theorem eps_lay (es : List Ep) (h : ∀ e ∈ es, isWord e.1 = true) : PyData.canLayAll0 (es.map epP) = true := by
  induction es with
  | nil => rfl
  | cons e es ih =>
    rw [List.map_cons]
    unfold PyData.canLayAll0
    rw [ih fun e h' => h e (List.mem_cons_of_mem _ h')]
    have hs : PyData.strOk e.1 = true := word_ok (h e List.mem_cons_self)
    simp [epP, PyData.canLay0, PyData.canLayAll0, hs]
theorem ep_eqv (a b : Ep) : PyData.eqv (epP a) (epP b) = decide (a = b) := by
  obtain ⟨a1, a2⟩ := a
  obtain ⟨b1, b2⟩ := b
  unfold epP
  simp only [PyData.eqv, PyData.eqvAll, Bool.and_true]
  by_cases h1 : a1 = b1 <;> by_cases h2 : a2 = b2 <;> simp [h1, h2]
theorem ep_any (es : List Ep) (e : Ep) : ((es.map epP).any fun z => PyData.eqv z (epP e)) = decide (e ∈ es) := by
  induction es with
  | nil => rfl
  | cons a es ih =>
    rw [List.map_cons, List.any_cons, ih, ep_eqv]
    by_cases h : a = e
    · subst h; simp
    · have h' : ¬ e = a := fun z => h z.symm
      simp [h, h']
structure Bk where
  rules : List Rul
  seen : List Ep
abbrev Lst := List (Str × Snd)
structure Cl where
  B : Addr
  R : Addr
  L : Addr
  D : Addr
def dicD {α : Type} (f : α → Dt) (l : List (Str × α)) : Dt := .dic (l.map fun x => (.inr x.1, f x.2))
def Bk.d (c : Cl) (b : Bk) : Dt := .ins c.B [("_rules", .tup (b.rules.map (Rul.d c.R))), ("_seen", .tup (b.seen.map epD))]
def lstD (c : Cl) (l : Lst) : Dt := .ins c.L [("_sendings", dicD (Snd.d c.D) l)]
def look {α : Type} (l : List (Str × α)) (n : Str) : Option α := (l.find? fun x => decide (x.1 = n)).map (·.2)
theorem getD_dic {α : Type} (f : α → Dt) (l : List (Str × α)) (n : Str) : getD ((l.map fun x => ((Sum.inr x.1 : Key), f x.2)).map fun kv => (kv.1, Sv.dat kv.2)) (.inr n) = (look l n).map fun x => Sv.dat (f x) := by
  unfold getD look
  induction l with
  | nil => rfl
  | cons a l ih =>
    rw [List.map_cons, List.map_cons, List.find?_cons, List.find?_cons]
    have e : decide ((Sum.inr a.1 : Key) = Sum.inr n) = decide (a.1 = n) := by simp
    dsimp only
    rw [e]
    cases decide (a.1 = n) with
    | true => rfl
    | false => exact ih
/-- the rule that wishes for an episode -/
def ruleOf (b : Bk) (s : Str) (e : Int) : Option Rul := if (s, e) ∈ b.seen then none else b.rules.find? fun r => decide (r.show_ = s) && (decide (r.first ≤ e) && decide (e ≤ r.last))
def ruleFor (b : Bk) (x : Snd) : Option Rul := ruleOf b x.show_ x.episode
def Snd.ep (x : Snd) : Ep := (x.show_, x.episode)
/-- a sending that is wished, its rule -/
structure Wi where
  n : Str
  s : Snd
  r : Rul
def wished (b : Bk) (l : Lst) : List Wi := l.filterMap fun x => (ruleFor b x.2).map fun r => ⟨x.1, x.2, r⟩
def optR (C : Addr) : Option Rul → Dt
  | some r => r.d C
  | none => .non
structure SOk (x : Snd) : Prop where
  ch : isWord x.channel = true
  sh : isWord x.show_ = true
  e1 : 1 ≤ x.episode
  e2 : x.episode ≤ 999
  b0 : 0 ≤ x.begin_
  b1 : x.begin_ ≤ 1000000
  n0 : x.begin_ < x.end_
  n1 : x.end_ ≤ 1000600
  l0 : 0 ≤ x.late
  l1 : x.late ≤ 60
structure ROk (x : Rul) : Prop where
  sh : isWord x.show_ = true
  f1 : 1 ≤ x.first
  f2 : x.first ≤ x.last
  l2 : x.last ≤ 999
  p1 : 1 ≤ x.priority
  p2 : x.priority ≤ 9
  b0 : 0 ≤ x.before
  b1 : x.before ≤ 60
  a0 : 0 ≤ x.after
  a1 : x.after ≤ 60
structure LOk (l : Lst) : Prop where
  len : l.length ≤ 10
  nd : (l.map (·.1)).Pairwise fun a b => a.cps.toList < b.cps.toList
  ok : ∀ x ∈ l, isWord x.1 = true ∧ SOk x.2
structure BOk (b : Bk) : Prop where
  len : b.rules.length ≤ 6
  ok : ∀ x ∈ b.rules, ROk x
  seen : b.seen.length ≤ 63
  sok : ∀ e ∈ b.seen, isWord e.1 = true
def strLe (a b : Str) : Bool := decide (a.cps.toList ≤ b.cps.toList)
theorem str_ext {x y : Str} (h : x.cps.toList = y.cps.toList) : x = y := PySem.W.str_of_cps h
def sortN (ns : List Str) : List Str := ns.mergeSort strLe
theorem strLe_trans (a b c : Str) (h : strLe a b = true) (k : strLe b c = true) : strLe a c = true := by
  unfold strLe at *
  exact decide_eq_true (List.le_trans (of_decide_eq_true h) (of_decide_eq_true k))
theorem strLe_total (a b : Str) : (strLe a b || strLe b a) = true := by
  unfold strLe
  rw [Bool.or_eq_true, decide_eq_true_iff, decide_eq_true_iff]
  exact List.le_total _ _
theorem sort_unique {α : Type} {le : α → α → Bool} (tr : ∀ a b c, le a b = true → le b c = true → le a c = true) (to : ∀ a b, (le a b || le b a) = true) (an : ∀ a b, le a b = true → le b a = true → a = b) {l l' : List α} (hp : l'.Perm l) (hs : l'.Pairwise fun a b => le a b = true) : l' = l.mergeSort le := by
  have h1 := List.pairwise_mergeSort (le := le) tr to l
  have hp' : l'.Perm (l.mergeSort le) := hp.trans (List.mergeSort_perm l le).symm
  exact List.Perm.eq_of_pairwise (fun a b _ _ => an a b) hs h1 hp'
theorem strLe_anti (a b : Str) (h : strLe a b = true) (k : strLe b a = true) : a = b := by
  unfold strLe at *
  exact str_ext (List.le_antisymm (of_decide_eq_true h) (of_decide_eq_true k))
theorem rising_pw : ∀ (l : List Str) (p : Str), risingS p l = true → (p :: l).Pairwise fun a b => strLe a b = true
  | [], p, _ => by simp
  | x :: l, p, h => by
    unfold risingS at h
    rw [Bool.and_eq_true] at h
    have ih := rising_pw l x h.2
    have hx : strLe p x = true := by
      have h1 : ltCps x.cps.toList p.cps.toList = false := by simpa using h.1
      have e : ltCps x.cps.toList p.cps.toList = decide (x.cps.toList < p.cps.toList) := by first | rfl | exact ltCps_eq _ _
      rw [e] at h1
      unfold strLe
      exact decide_eq_true (List.not_lt.mp (of_decide_eq_false h1))
    refine List.pairwise_cons.mpr ⟨fun y hy => ?_, ih⟩
    rcases List.mem_cons.mp hy with rfl | hy
    · exact hx
    · exact strLe_trans _ _ _ hx ((List.pairwise_cons.mp ih).1 y hy)
theorem sorted_is {ys ks : List Str} (hp : ys.Perm ks) (hs : sortedS ys = true) : ys = sortN ks := by
  refine sort_unique strLe_trans strLe_total strLe_anti hp ?_
  cases ys with
  | nil => simp
  | cons y ys => exact rising_pw ys y hs
theorem data_tot {α : Type} (k : α → PyData) : PySem.W.TotalLe (PySem.W.dataLe false k) := PySem.W.sortLe_total (PyProof.Rows.listOrd PyProof.Rows.itemOrd) false fun b => PySem.W.keyToks (k b)
theorem data_total {α : Type} (k : α → PyData) (a b : α) : (PySem.W.dataLe false k a b || PySem.W.dataLe false k b a) = true := by
  rw [Bool.or_eq_true]
  exact (data_tot k).total a b
theorem data_trans {α : Type} (k : α → PyData) : ∀ a b c, PySem.W.dataLe false k a b = true → PySem.W.dataLe false k b c = true → PySem.W.dataLe false k a c = true := (data_tot k).trans
end SP
namespace SP
open PySem PySem.Spec PyProof.Rows L2 DD
theorem look_mem {α : Type} {l : List (Str × α)} (nd : (l.map (·.1)).Nodup) {x : Str × α} (h : x ∈ l) : look l x.1 = some x.2 := by
  unfold look
  induction l with
  | nil => cases h
  | cons a l ih =>
    rw [List.map_cons, List.nodup_cons] at nd
    rw [List.find?_cons]
    rcases List.mem_cons.mp h with e | h
    · subst e; simp
    · have : a.1 ≠ x.1 := fun e => nd.1 (e ▸ List.mem_map.mpr ⟨x, h, rfl⟩)
      rw [decide_eq_false this]
      exact ih nd.2 h
theorem look_some {α : Type} {l : List (Str × α)} {n : Str} {a : α} (h : look l n = some a) : (n, a) ∈ l := by
  unfold look at h
  cases e : l.find? (fun x => decide (x.1 = n)) with
  | none => rw [e] at h; cases h
  | some x =>
    rw [e] at h
    cases h
    have h1 := List.mem_of_find?_eq_some e
    have h2 := List.find?_some e
    have h3 : x.1 = n := of_decide_eq_true h2
    subst h3
    exact h1
theorem LOk.nodup {l : Lst} (h : LOk l) : (l.map (·.1)).Nodup := h.nd.imp fun {a b} k e => by subst e; exact absurd k (List.lt_irrefl _)
theorem LOk.get {l : Lst} (h : LOk l) {x : Str × Snd} (hx : x ∈ l) : look l x.1 = some x.2 := look_mem h.nodup hx
abbrev bl (c : Cl) (b : Bk) (l : Lst) : List Sv := [.dat (b.d c), .dat (lstD c l)]
def namesD (ns : List Str) : Dt := .lst (ns.map .str)
@[irreducible] def ctRuleOf (c : Cl) : Ct := fun ss st ok _ => ∃ b s e, ss = [.dat (b.d c), .dat (.str s), dI e] ∧ BOk b ∧ isWord s = true ∧ ok (.dat (optR c.R (ruleOf b s e))) st
theorem ctRuleOf_eq (c : Cl) {ss : List Sv} {st : Store} {ok : OK} {ex : EK} : ctRuleOf c ss st ok ex = ∃ b s e, ss = [.dat (b.d c), .dat (.str s), dI e] ∧ BOk b ∧ isWord s = true ∧ ok (.dat (optR c.R (ruleOf b s e))) st := by unfold ctRuleOf; rfl
def ctEp (c : Cl) : Ct := fun ss st ok _ => ∃ x : Snd, ss = [.dat (x.d c.D)] ∧ ok (.dat (epD x.ep)) st
@[irreducible] def ctRuleFor (c : Cl) : Ct := fun ss st ok _ => ∃ b x, ss = [.dat (b.d c), .dat (x.d c.D)] ∧ BOk b ∧ SOk x ∧ ok (.dat (optR c.R (ruleFor b x))) st
theorem ctRuleFor_eq (c : Cl) {ss : List Sv} {st : Store} {ok : OK} {ex : EK} : ctRuleFor c ss st ok ex = ∃ b x, ss = [.dat (b.d c), .dat (x.d c.D)] ∧ BOk b ∧ SOk x ∧ ok (.dat (optR c.R (ruleFor b x))) st := by unfold ctRuleFor; rfl
@[irreducible] def ctItem (c : Cl) : Ct := fun ss st ok _ => ∃ l n x, ss = [.dat (lstD c l), .dat (.str n)] ∧ look l n = some x ∧ ok (.dat (x.d c.D)) st
theorem ctItem_eq (c : Cl) {ss : List Sv} {st : Store} {ok : OK} {ex : EK} : ctItem c ss st ok ex = ∃ l n x, ss = [.dat (lstD c l), .dat (.str n)] ∧ look l n = some x ∧ ok (.dat (x.d c.D)) st := by unfold ctItem; rfl
@[irreducible] def ctHas (c : Cl) : Ct := fun ss st ok _ => ∃ l n, ss = [.dat (lstD c l), .dat (.str n)] ∧ ok (.dat (.bl (look l n).isSome)) st
theorem ctHas_eq (c : Cl) {ss : List Sv} {st : Store} {ok : OK} {ex : EK} : ctHas c ss st ok ex = ∃ l n, ss = [.dat (lstD c l), .dat (.str n)] ∧ ok (.dat (.bl (look l n).isSome)) st := by unfold ctHas; rfl
@[irreducible] def ctNames (c : Cl) : Ct := fun ss st ok _ => ∃ l : Lst, ss = [.dat (lstD c l)] ∧ ok (.dat (.tup (l.map fun x => .str x.1))) st
theorem ctNames_eq (c : Cl) {ss : List Sv} {st : Store} {ok : OK} {ex : EK} : ctNames c ss st ok ex = ∃ l : Lst, ss = [.dat (lstD c l)] ∧ ok (.dat (.tup (l.map fun x => .str x.1))) st := by unfold ctNames; rfl
/-- of a book and a listing, and what else -/
@[irreducible] def ctBL (c : Cl) {α : Type} (e : α → List Sv) (pre : Bk → Lst → α → Prop) (res : Bk → Lst → α → Dt) : Ct := fun ss st ok _ => ∃ b l a, ss = .dat (b.d c) :: .dat (lstD c l) :: e a ∧ BOk b ∧ LOk l ∧ pre b l a ∧ ok (.dat (res b l a)) st
theorem ctBL_eq (c : Cl) {α : Type} (e : α → List Sv) (pre : Bk → Lst → α → Prop) (res : Bk → Lst → α → Dt) {ss : List Sv} {st : Store} {ok : OK} {ex : EK} : ctBL c e pre res ss st ok ex = ∃ b l a, ss = .dat (b.d c) :: .dat (lstD c l) :: e a ∧ BOk b ∧ LOk l ∧ pre b l a ∧ ok (.dat (res b l a)) st := by unfold ctBL; rfl
theorem bl_len {c : Cl} {α : Type} {e : α → List Sv} {pre : Bk → Lst → α → Prop} {res : Bk → Lst → α → Dt} {ss : List Sv} {st : Store} {ok : OK} {ex : EK} {m : Nat} (he : ∀ a, (e a).length = m) (h : ctBL c e pre res ss st ok ex) : ss.length = m + 2 := by
  rw [ctBL_eq] at h
  obtain ⟨b, l, a, rfl, _⟩ := h
  show (e a).length + 1 + 1 = _
  rw [he]
theorem bl_at {c : Cl} {α : Type} {e : α → List Sv} {pre : Bk → Lst → α → Prop} {res : Bk → Lst → α → Dt} {st : Store} {ok : OK} {ex : EK} {b : Bk} {l : Lst} (a : α) {xs : List Sv} (hx : xs = e a) (hb : BOk b) (hl : LOk l) (hp : pre b l a) (k : ok (.dat (res b l a)) st) : ctBL c e pre res (.dat (b.d c) :: .dat (lstD c l) :: xs) st ok ex := by
  rw [ctBL_eq]
  subst hx
  exact ⟨b, l, a, rfl, hb, hl, hp, k⟩
def wNames (b : Bk) (l : Lst) : List Str := (wished b l).map (·.n)
def ctWNames (c : Cl) : Ct := ctBL c (fun _ : Unit => []) (fun _ _ _ => True) fun b l _ => namesD (wNames b l)
abbrev Row := Int × Int × Ep
def rowD (r : Row) : Dt := .tup [.int r.1, .int r.2.1, epD r.2.2]
def rowP (r : Row) : PyData := .tuple [.int r.1, .int r.2.1, epP r.2.2]
def Wi.row (x : Wi) : Row := (-x.r.priority, x.s.begin_, x.s.ep)
def dedup (es : List Ep) : List Ep := es.foldl (fun acc e => if e ∈ acc then acc else acc ++ [e]) []
def sortedRows (b : Bk) (l : Lst) : List Row := ((wished b l).map Wi.row).mergeSort (PySem.W.dataLe false rowP)
def wishes (b : Bk) (l : Lst) : List Ep := dedup ((sortedRows b l).map (·.2.2))
def ctWishes (c : Cl) : Ct := ctBL c (fun _ : Unit => []) (fun _ _ _ => True) fun b l _ => .lst ((wishes b l).map epD)
abbrev Bn := Int × Str
def bnD (r : Bn) : Dt := .tup [.int r.1, .str r.2]
def bnP (r : Bn) : PyData := .tuple [.int r.1, .str r.2]
def Wi.bn (x : Wi) : Bn := (x.s.begin_, x.n)
def bnOf (b : Bk) (l : Lst) (e : Ep) : List Bn := (((wished b l).filter fun x => decide (x.s.ep = e)).map Wi.bn).mergeSort (PySem.W.dataLe false bnP)
def sendsOf (b : Bk) (l : Lst) (e : Ep) : List Str := (bnOf b l e).map (·.2)
def ctSends (c : Cl) : Ct := ctBL c (fun e : Ep => [.dat (epD e)]) (fun b l e => ∃ x ∈ wished b l, x.s.ep = e) fun b l e => namesD (sendsOf b l e)
abbrev Win := Int × Int
def winD (w : Win) : Dt := .tup [.int w.1, .int w.2]
def Wi.win (x : Wi) : Win := (if x.s.begin_ - x.r.before > 0 then x.s.begin_ - x.r.before else 0, x.s.end_ + x.r.after)
def ctWindow (c : Cl) : Ct := ctBL c (fun x : Wi => [.dat (.str x.n)]) (fun b l x => x ∈ wished b l) fun _ _ x => winD x.win
def windows (b : Bk) (l : Lst) : List (Str × Win) := (wished b l).map fun x => (x.n, x.win)
def ctWindows (c : Cl) : Ct := ctBL c (fun _ : Unit => []) (fun _ _ _ => True) fun b l _ => dicD winD (windows b l)
def overlap (a b : Win) : Bool := decide (a.1 < b.2) && decide (b.1 < a.2)
def ctOver : Ct := fun ss st ok _ => ∃ a b : Win, ss = [.dat (winD a), .dat (winD b)] ∧ ok (.dat (.bl (overlap a b))) st
abbrev Plan := List (Str × Int)
structure POk (p : Plan) : Prop where
  nd : (p.map (·.1)).Nodup
  len : p.length ≤ 10
def asc (p : Plan) : Plan := (sortN (p.map (·.1))).map fun n => (n, (look p n).getD 0)
@[irreducible] def ctAsc : Ct := fun ss st ok _ => ∃ p : Plan, ss = [.dat (dicD .int p)] ∧ POk p ∧ ok (.dat (dicD .int (asc p))) st
theorem ctAsc_eq {ss : List Sv} {st : Store} {ok : OK} {ex : EK} : ctAsc ss st ok ex = ∃ p : Plan, ss = [.dat (dicD .int p)] ∧ POk p ∧ ok (.dat (dicD .int (asc p))) st := by unfold ctAsc; rfl
def winOf (ws : List (Str × Win)) (n : Str) : Win := (look ws n).getD (0, 0)
def onRecW (ws : List (Str × Win)) (p : Plan) (r : Int) (w : Win) : List Str := ((sortN (p.map (·.1))).filter fun o => decide (look p o = some r)).filter fun o => overlap (winOf ws o) w
abbrev onRec (ws : List (Str × Win)) (p : Plan) (r : Int) (n : Str) : List Str := onRecW ws p r (winOf ws n)
@[irreducible] def ctOnRec : Ct := fun ss st ok _ => ∃ ws p r w, (∃ dp : Sv, ss = [.dat (dicD winD ws), dp, dI r, .dat (winD w)] ∧ (dp = .dat (dicD .int p) ∨ ∃ (q : Addr) (j : Nat), dp = .own q ∧ st[j]? = some (q, Ob.dic (p.map fun x => ((Sum.inr x.1 : Key), dI x.2))))) ∧ POk p ∧ (∀ x ∈ p, (look ws x.1).isSome) ∧ ok (.dat (namesD (onRecW ws p r w))) st
theorem ctOnRec_eq {ss : List Sv} {st : Store} {ok : OK} {ex : EK} : ctOnRec ss st ok ex = ∃ ws p r w, (∃ dp : Sv, ss = [.dat (dicD winD ws), dp, dI r, .dat (winD w)] ∧ (dp = .dat (dicD .int p) ∨ ∃ (q : Addr) (j : Nat), dp = .own q ∧ st[j]? = some (q, Ob.dic (p.map fun x => ((Sum.inr x.1 : Key), dI x.2))))) ∧ POk p ∧ (∀ x ∈ p, (look ws x.1).isSome) ∧ ok (.dat (namesD (onRecW ws p r w))) st := by unfold ctOnRec; rfl
theorem wished_mem {b : Bk} {l : Lst} {x : Wi} : x ∈ wished b l ↔ (x.n, x.s) ∈ l ∧ ruleFor b x.s = some x.r := by
  unfold wished
  rw [List.mem_filterMap]
  constructor
  · rintro ⟨y, hy, h⟩
    cases e : ruleFor b y.2 with
    | none => rw [e] at h; cases h
    | some r => rw [e] at h; cases h; exact ⟨hy, e⟩
  · rintro ⟨h1, h2⟩
    exact ⟨_, h1, by rw [h2]; rfl⟩
end SP
namespace SP
open PySem PySem.Spec PyProof.Rows L2 DD
theorem wnames_is (b : Bk) (l : Lst) : l.filterMap (fun x => (ruleFor b x.2).map fun _ => Dt.str x.1) = (wNames b l).map Dt.str := by
  unfold wNames wished
  rw [List.map_filterMap, List.map_filterMap]
  congr 1
  funext x
  cases ruleFor b x.2 <;> rfl
theorem filterMap_sub {α β γ : Type} (f : α → Option β) (g : β → γ) (h : α → γ) (hf : ∀ a b, f a = some b → g b = h a) : ∀ l : List α, ((l.filterMap f).map g).Sublist (l.map h)
  | [] => .slnil
  | a :: l => by
    rw [List.filterMap_cons, List.map_cons]
    cases e : f a with
    | none => exact (filterMap_sub f g h hf l).cons _
    | some b =>
      dsimp only
      rw [List.map_cons, hf a b e]
      exact (filterMap_sub f g h hf l).cons_cons _
theorem wished_sub (b : Bk) (l : Lst) : ((wished b l).map (·.n)).Sublist (l.map (·.1)) := by
  unfold wished
  refine filterMap_sub _ _ _ (fun x y h => ?_) l
  cases e : ruleFor b x.2 with
  | none => rw [e] at h; cases h
  | some r => rw [e] at h; cases h; rfl
theorem wished_nd {b : Bk} {l : Lst} (h : LOk l) : ((wished b l).map (·.n)).Nodup := h.nodup.sublist (wished_sub b l)
theorem wished_len {b : Bk} {l : Lst} (h : LOk l) : (wished b l).length ≤ 10 := by
  have := (wished_sub b l).length_le
  rw [List.length_map, List.length_map] at this
  exact Nat.le_trans this h.len
/-- a dict comprehension over data, the keys new ones -/
structure DcJ {α : Type} (as : List α) (f : α → Option (Key × Dt)) (st : Store) (i : Nat) (acc : List (Key × Sv)) (st' : Store) : Prop where
  st : st' = st
  acc : acc = ((as.take i).filterMap f).map fun kv => (kv.1, Sv.dat kv.2)
theorem putD_new {κ α : Type} [DecidableEq κ] {kvs : List (κ × α)} {k : κ} {a : α} (h : k ∉ kvs.map (·.1)) : putD kvs k a = kvs ++ [(k, a)] := by
  unfold putD
  rw [if_neg]
  intro z
  obtain ⟨x, hx, e⟩ := List.any_eq_true.mp z
  exact h (List.mem_map.mpr ⟨x, hx, of_decide_eq_true e⟩)
theorem allK_map : ∀ ds : List (Key × Dt), AllK (ds.map fun kv => (kv.1, Sv.dat kv.2)) ds
  | [] => .nil
  | a :: as => .cons (allK_map as)
theorem dc_yes {α : Type} {as : List α} {f : α → Option (Key × Dt)} {st : Store} {i : Nat} {acc : List (Key × Sv)} {D : Addr} {a : α} {d0 v : Dt} {k : Key} (hl : as.length ≤ sizeLine) (hn : ((as.filterMap f).map (·.1)).Nodup) (ha : as[i]? = some a) (J : DcJ as f st i acc st) (hf : f a = some (k, v)) (hk : keyD d0 = some k) :
    ∃ dy k' acc' st6, Sv.dat d0 = .dat dy ∧ keyD dy = some k' ∧ ((D, Ob.dic acc) :: st) = (D, .dic acc') :: st6 ∧ acc'.length < sizeLine ∧ DcJ as f st (i + 1) (putD acc' k' (.dat v)) st6 := by
  have hi := (List.getElem?_eq_some_iff.mp ha).1
  have e3 : as = as.take i ++ a :: as.drop (i + 1) := by
    obtain ⟨hl, e⟩ := List.getElem?_eq_some_iff.mp ha
    rw [← e, List.getElem_cons_drop, List.take_append_drop]
  refine ⟨d0, k, acc, st, rfl, hk, rfl, ?_, rfl, ?_⟩
  · have := List.length_filterMap_le f (as.take i)
    rw [List.length_take] at this
    rw [J.acc, List.length_map]
    omega
  · have hnew : k ∉ acc.map (·.1) := by
      rw [J.acc, List.map_map]
      rw [e3, List.filterMap_append, List.filterMap_cons, hf, List.map_append] at hn
      have := (List.nodup_append.mp hn).2.2
      intro z
      exact this k z k (by simp) rfl
    rw [putD_new hnew, J.acc, List.take_succ, ha, List.filterMap_append, List.map_append]
    simp [hf]
theorem dc_no {α : Type} {as : List α} {f : α → Option (Key × Dt)} {st : Store} {i : Nat} {acc : List (Key × Sv)} {D : Addr} {a : α} (ha : as[i]? = some a) (J : DcJ as f st i acc st) (hf : f a = none) :
    ∃ acc' st5, ((D, Ob.dic acc) :: st) = (D, .dic acc') :: st5 ∧ DcJ as f st (i + 1) acc' st5 := by
  refine ⟨acc, st, rfl, rfl, ?_⟩
  rw [J.acc, List.take_succ, ha, List.filterMap_append, List.map_append]
  simp [hf]
theorem dc_pure {α : Type} {g : DG} {tt : DT} {tk tv : DE} {vs : List Nat} {xs : List Sv} {Δ : List Sv} {st : Store} {ok : OK} (as : List α) (e : α → Dt) (f : α → Option (Key × Dt)) (hx : xs = as.map fun a => .dat (e a))
    (hb : ∀ (i : Nat) (a : α) (D : Addr) acc, as[i]? = some a → D ∉ keys st → DcJ as f st i acc st → g (.dat (e a)) (wipeD Δ vs) ((D, .dic acc) :: st) fun Δ2 st2 => tt Δ2 st2 (fun b st3 =>
      (b = true → tk Δ2 st3 (fun y st4 => tv Δ2 st4 (fun z st5 => ∃ dy k acc' st6, y = .dat dy ∧ keyD dy = some k ∧ st5 = (D, .dic acc') :: st6 ∧ acc'.length < sizeLine ∧ DcJ as f st (i + 1) (putD acc' k z) st6) fun _ _ => False) fun _ _ => False) ∧
      (b = false → ∃ acc' st5, st3 = (D, .dic acc') :: st5 ∧ DcJ as f st (i + 1) acc' st5)) fun _ _ => False)
    (hk : ok (.dat (.dic (as.filterMap f))) st) : dcD g tt tk tv vs xs Δ st ok := by
  subst hx
  rw [dcD_eq]
  intro D hD
  refine ⟨DcJ as f st, ⟨rfl, by simp⟩, ?_, ?_⟩
  · rintro i d acc st' hd J hD'
    obtain rfl := J.st
    rw [List.getElem?_map] at hd
    cases ea : as[i]? with
    | none => rw [ea] at hd; cases hd
    | some a =>
      rw [ea] at hd
      cases hd
      exact hb i a D acc ea hD' J
  · rintro acc st' J
    obtain rfl := J.st
    have e := J.acc
    rw [List.length_map, List.take_length] at e
    subst e
    exact ⟨_, allK_map _, hk⟩
theorem fm_some {α β : Type} (f : α → β) (l : List α) : l.filterMap (fun x => some (f x)) = l.map f := by
  rw [show (fun x => some (f x)) = some ∘ f from rfl, List.filterMap_eq_map]
theorem windows_is (b : Bk) (l : Lst) : Dt.dic ((wished b l).filterMap fun x => some ((Sum.inr x.n : Key), winD x.win)) = dicD winD (windows b l) := by
  unfold dicD windows
  rw [List.map_map]
  congr 1
  exact fm_some _ _
theorem nodup_inr {l : List Str} (h : l.Nodup) : (l.map fun n => (Sum.inr n : Key)).Nodup := by
  unfold List.Nodup at *
  rw [List.pairwise_map]
  exact h.imp fun {a b} k e => k (Sum.inr.inj e)
theorem windows_nd {b : Bk} {l : Lst} (h : LOk l) : (((wished b l).filterMap fun x => some ((Sum.inr x.n : Key), winD x.win)).map (·.1)).Nodup := by
  have e : ((wished b l).filterMap fun x => some ((Sum.inr x.n : Key), winD x.win)).map (·.1) = ((wished b l).map (·.n)).map fun n => (Sum.inr n : Key) := by
    rw [show (fun x : Wi => some ((Sum.inr x.n : Key), winD x.win)) = some ∘ fun x => ((Sum.inr x.n : Key), winD x.win) from rfl, List.filterMap_eq_map, List.map_map, List.map_map]
    rfl
  rw [e]
  exact nodup_inr (wished_nd h)
theorem sortN_perm (ns : List Str) : (sortN ns).Perm ns := List.mergeSort_perm _ _
theorem asc_is (p : Plan) : Dt.dic ((sortN (p.map (·.1))).filterMap fun n => some ((Sum.inr n : Key), Dt.int ((look p n).getD 0))) = dicD .int (asc p) := by
  unfold dicD asc
  rw [List.map_map]
  congr 1
  exact fm_some _ _
theorem asc_nd {p : Plan} (h : (p.map (·.1)).Nodup) : (((sortN (p.map (·.1))).filterMap fun n => some ((Sum.inr n : Key), Dt.int ((look p n).getD 0))).map (·.1)).Nodup := by
  have e : ((sortN (p.map (·.1))).filterMap fun n => some ((Sum.inr n : Key), Dt.int ((look p n).getD 0))).map (·.1) = (sortN (p.map (·.1))).map fun n => (Sum.inr n : Key) := by
    rw [show (fun n : Str => some ((Sum.inr n : Key), Dt.int ((look p n).getD 0))) = some ∘ fun n => ((Sum.inr n : Key), Dt.int ((look p n).getD 0)) from rfl, List.filterMap_eq_map, List.map_map]
    rfl
  rw [e]
  exact nodup_inr ((sortN_perm _).nodup_iff.mpr h)
theorem look_is {α : Type} {l : List (Str × α)} {n : Str} (h : n ∈ l.map (·.1)) : ∃ a, look l n = some a := by
  unfold look
  cases e : l.find? (fun x => decide (x.1 = n)) with
  | some x => exact ⟨x.2, rfl⟩
  | none =>
    obtain ⟨x, hx, rfl⟩ := List.mem_map.mp h
    have := List.find?_eq_none.mp e x hx
    simp at this
theorem row_of (r : Row) : PyOf (rowD r) (rowP r) := .tup (.cons (.int _) (.cons (.int _) (.cons (ep_of _) .nil)))
theorem row_alike (rs : List Row) : PySem.W.AllAlike (rs.map rowP) := by
  intro d hd d' hd'
  obtain ⟨r, _, rfl⟩ := List.mem_map.mp hd
  obtain ⟨r', _, rfl⟩ := List.mem_map.mp hd'
  simp [rowP, epP, PySem.W.alike, PySem.W.alikeAll]
theorem row_sortable (rs : List Row) : PySem.W.Sortable (rs.map rowP) := by
  refine .inl fun d hd => ?_
  obtain ⟨r, _, rfl⟩ := List.mem_map.mp hd
  exact ⟨_, _, rfl⟩
theorem row_depth (r : Row) : (rowP r).depth ≤ 30 := by simp [rowP, epP, PyData.depth, PyData.depthAll]
theorem bn_of (r : Bn) : PyOf (bnD r) (bnP r) := .tup (.cons (.int _) (.cons (.str _) .nil))
theorem bn_alike (rs : List Bn) : PySem.W.AllAlike (rs.map bnP) := by
  intro d hd d' hd'
  obtain ⟨r, _, rfl⟩ := List.mem_map.mp hd
  obtain ⟨r', _, rfl⟩ := List.mem_map.mp hd'
  simp [bnP, PySem.W.alike, PySem.W.alikeAll]
theorem bn_sortable (rs : List Bn) : PySem.W.Sortable (rs.map bnP) := by
  refine .inl fun d hd => ?_
  obtain ⟨r, _, rfl⟩ := List.mem_map.mp hd
  exact ⟨_, _, rfl⟩
theorem bn_depth (r : Bn) : (bnP r).depth ≤ 30 := by simp [bnP, PyData.depth, PyData.depthAll]
theorem fold_snoc {α β : Type} (f : α → β) (as : List α) (acc : List β) : as.foldl (fun s a => s ++ [f a]) acc = acc ++ as.map f := by
  induction as generalizing acc with
  | nil => simp
  | cons a as ih => rw [List.foldl_cons, ih, List.map_cons, List.append_assoc]; rfl
theorem allD_of {α : Type} (f : α → Dt) (as : List α) : AllD (as.map fun a => Sv.dat (f a)) (as.map f) := by
  rw [show (fun a => Sv.dat (f a)) = Sv.dat ∘ f from rfl, ← List.map_map]
  exact .map _
theorem dedup_len (as : List SP.Row) (acc : List Ep) : (as.foldl (fun acc r => if r.2.2 ∈ acc then acc else acc ++ [r.2.2]) acc).length ≤ acc.length + as.length := by
  induction as generalizing acc with
  | nil => simp
  | cons a as ih =>
    rw [List.foldl_cons]
    refine Nat.le_trans (ih _) ?_
    by_cases h : a.2.2 ∈ acc
    · rw [if_pos h, List.length_cons]; omega
    · rw [if_neg h, List.length_append, List.length_cons, List.length_cons, List.length_nil]; omega
theorem rows_perm (b : Bk) (l : Lst) : (sortedRows b l).Perm ((wished b l).map Wi.row) := List.mergeSort_perm _ _
theorem rows_len {b : Bk} {l : Lst} (h : LOk l) : (sortedRows b l).length ≤ 10 := by
  rw [(rows_perm b l).length_eq, List.length_map]
  exact wished_len h
theorem row_word {b : Bk} {l : Lst} (h : LOk l) {r : SP.Row} (hr : r ∈ sortedRows b l) : isWord r.2.2.1 = true := by
  obtain ⟨x, hx, rfl⟩ := List.mem_map.mp ((rows_perm b l).mem_iff.mp hr)
  exact (h.ok _ (wished_mem.mp hx).1).2.sh
theorem fold_filter {α β : Type} (q : α → Bool) (f : α → β) (as : List α) (acc : List β) : as.foldl (fun s a => if q a = true then s ++ [f a] else s) acc = acc ++ (as.filter q).map f := by
  induction as generalizing acc with
  | nil => simp
  | cons a as ih =>
    rw [List.foldl_cons, ih]
    cases h : q a <;> simp [h]
def bnRaw (b : Bk) (l : Lst) (e : Ep) : List Bn := ((wished b l).filter fun x => decide (x.s.ep = e)).map Wi.bn
theorem bn_perm (b : Bk) (l : Lst) (e : Ep) : (bnOf b l e).Perm (bnRaw b l e) := List.mergeSort_perm _ _
theorem bn_len {b : Bk} {l : Lst} (h : LOk l) (e : Ep) : (bnRaw b l e).length ≤ 10 := by
  unfold bnRaw
  rw [List.length_map]
  exact Nat.le_trans (List.length_filter_le _ _) (wished_len h)
theorem bn_pos {b : Bk} {l : Lst} {e : Ep} {x : Wi} (hx : x ∈ wished b l) (he : x.s.ep = e) : bnRaw b l e ≠ [] := by
  have : x.bn ∈ bnRaw b l e := List.mem_map.mpr ⟨x, List.mem_filter.mpr ⟨hx, decide_eq_true he⟩, rfl⟩
  intro z
  rw [z] at this
  cases this
theorem getD_own {α : Type} (f : α → Sv) (l : List (Str × α)) (n : Str) : getD (l.map fun x => ((Sum.inr x.1 : Key), f x.2)) (.inr n) = (look l n).map f := by
  unfold getD look
  induction l with
  | nil => rfl
  | cons a l ih =>
    rw [List.map_cons, List.find?_cons, List.find?_cons]
    have e : decide ((Sum.inr a.1 : Key) = Sum.inr n) = decide (a.1 = n) := by simp
    dsimp only
    rw [e]
    cases decide (a.1 = n) with
    | true => rfl
    | false => exact ih
theorem fm_if {α β : Type} (q : α → Bool) (f : α → β) (l : List α) : l.filterMap (fun x => if q x = true then some (f x) else none) = (l.filter q).map f := by
  induction l with
  | nil => rfl
  | cons a l ih =>
    rw [List.filterMap_cons, List.filter_cons]
    cases h : q a with
    | true => simp [ih]
    | false => simp [ih]
theorem wishes_fold (b : Bk) (l : Lst) : (sortedRows b l).foldl (fun acc r => if r.2.2 ∈ acc then acc else acc ++ [r.2.2]) [] = wishes b l := by
  unfold wishes dedup
  rw [List.foldl_map]
end SP
namespace SP
open PySem PySem.Spec PyProof.Rows L2 DD
@[irreducible] def ctLeast : Ct := fun ss st ok _ => ∃ (ws : List (Str × Win)) (p : Plan) (w : Win) (k0 : Nat), (∃ dp : Sv, ss = [.dat (dicD winD ws), dp, .dat (winD w)] ∧ (dp = .dat (dicD .int p) ∨ ∃ (q : Addr) (j : Nat), dp = .own q ∧ st[j]? = some (q, Ob.dic (p.map fun x => ((Sum.inr x.1 : Key), dI x.2))))) ∧ POk p ∧ (∀ x ∈ p, (look ws x.1).isSome) ∧ (∀ x ∈ p, x.2 < (k0 : Int)) ∧
  ∀ r : Nat, r ≤ k0 → (∀ r' : Nat, r' < r → onRecW ws p (r' : Int) w ≠ []) → onRecW ws p (r : Int) w = [] → ok (dI (r : Int)) st
theorem ctLeast_eq {ss : List Sv} {st : Store} {ok : OK} {ex : EK} : ctLeast ss st ok ex = ∃ (ws : List (Str × Win)) (p : Plan) (w : Win) (k0 : Nat), (∃ dp : Sv, ss = [.dat (dicD winD ws), dp, .dat (winD w)] ∧ (dp = .dat (dicD .int p) ∨ ∃ (q : Addr) (j : Nat), dp = .own q ∧ st[j]? = some (q, Ob.dic (p.map fun x => ((Sum.inr x.1 : Key), dI x.2))))) ∧ POk p ∧ (∀ x ∈ p, (look ws x.1).isSome) ∧ (∀ x ∈ p, x.2 < (k0 : Int)) ∧
  ∀ r : Nat, r ≤ k0 → (∀ r' : Nat, r' < r → onRecW ws p (r' : Int) w ≠ []) → onRecW ws p (r : Int) w = [] → ok (dI (r : Int)) st := by unfold ctLeast; rfl
/-- the first receiver that is free -/
def freeAt (ws : List (Str × Win)) (p : Plan) (k : Nat) (n : Str) : Option Nat := (List.range k).find? fun r => (onRec ws p (r : Int) n).isEmpty
def firstFree (ws : List (Str × Win)) (p : Plan) (k : Nat) : List Str → Option (Str × Int)
  | [] => none
  | n :: ns => match freeAt ws p k n with
    | some r => some (n, (r : Int))
    | none => firstFree ws p k ns
def addTo (p : Plan) : Option (Str × Int) → Plan
  | some x => p ++ [x]
  | none => p
def takeStep (b : Bk) (l : Lst) (k : Nat) (p : Plan) (e : Ep) : Plan := addTo p (firstFree (windows b l) p k (sendsOf b l e))
def taken (b : Bk) (l : Lst) (k : Nat) : Plan := (wishes b l).foldl (takeStep b l k) []
def ctTaken (c : Cl) : Ct := ctBL c (fun k : Nat => [dI (k : Int)]) (fun _ _ k => k ≤ 10) fun b l k => dicD .int (taken b l k)
theorem free_some {ws : List (Str × Win)} {p : Plan} {k r : Nat} {n : Str} (h : r < k) (h1 : ∀ r' : Nat, r' < r → onRec ws p (r' : Int) n ≠ []) (h2 : onRec ws p (r : Int) n = []) : freeAt ws p k n = some r := by
  unfold freeAt
  rw [List.find?_range_eq_some]
  refine ⟨by rw [h2]; rfl, List.mem_range.mpr h, fun j hj => ?_⟩
  cases e : onRec ws p (j : Int) n with
  | nil => exact absurd e (h1 j hj)
  | cons => rfl
theorem free_none {ws : List (Str × Win)} {p : Plan} {k r : Nat} {n : Str} (h : k ≤ r) (h1 : ∀ r' : Nat, r' < r → onRec ws p (r' : Int) n ≠ []) : freeAt ws p k n = none := by
  unfold freeAt
  rw [List.find?_eq_none]
  intro j hj
  cases e : onRec ws p (j : Int) n with
  | nil => exact absurd e (h1 j (by have := List.mem_range.mp hj; omega))
  | cons => simp
theorem on_out {ws : List (Str × Win)} {p : Plan} {r : Int} {w : Win} (h : ∀ x ∈ p, x.2 < r) : onRecW ws p r w = [] := by
  unfold onRecW
  have e : ((sortN (p.map (·.1))).filter fun o => decide (look p o = some r)) = [] := by
    rw [List.filter_eq_nil_iff]
    intro o ho z
    have := h _ (look_some (of_decide_eq_true z))
    exact absurd this (Int.lt_irrefl _)
  rw [e]
  rfl
end SP
namespace SP
open PySem PySem.Spec PyProof.Rows L2 DD
theorem wished_inj {b : Bk} {l : Lst} (hl : LOk l) {x y : Wi} (hx : x ∈ wished b l) (hy : y ∈ wished b l) (h : x.n = y.n) : x = y := by
  obtain ⟨x1, x2⟩ := wished_mem.mp hx
  obtain ⟨y1, y2⟩ := wished_mem.mp hy
  have e1 := hl.get x1
  have e2 := hl.get y1
  dsimp only at e1 e2
  rw [h, e2] at e1
  have e3 : y.s = x.s := Option.some.inj e1
  rw [e3, x2] at y2
  have e4 := Option.some.inj y2
  cases x; cases y
  simp_all
theorem dedup_nd (es acc : List Ep) (h : acc.Nodup) : (es.foldl (fun acc e => if e ∈ acc then acc else acc ++ [e]) acc).Nodup := by
  induction es generalizing acc with
  | nil => exact h
  | cons e es ih =>
    rw [List.foldl_cons]
    apply ih
    by_cases z : e ∈ acc
    · rw [if_pos z]; exact h
    · rw [if_neg z]
      refine List.nodup_append.mpr ⟨h, by simp, fun a ha b hb => ?_⟩
      rw [List.mem_singleton.mp hb]
      intro q
      exact z (q ▸ ha)
theorem dedup_mem (es acc : List Ep) (x : Ep) : x ∈ es.foldl (fun acc e => if e ∈ acc then acc else acc ++ [e]) acc ↔ x ∈ acc ∨ x ∈ es := by
  induction es generalizing acc with
  | nil => simp
  | cons e es ih =>
    rw [List.foldl_cons, ih]
    by_cases z : e ∈ acc
    · rw [if_pos z]
      constructor
      · rintro (h | h)
        · exact .inl h
        · exact .inr (List.mem_cons_of_mem _ h)
      · rintro (h | h)
        · exact .inl h
        · rcases List.mem_cons.mp h with rfl | h
          · exact .inl z
          · exact .inr h
    · rw [if_neg z]
      constructor
      · rintro (h | h)
        · rcases List.mem_append.mp h with h | h
          · exact .inl h
          · exact .inr (List.mem_singleton.mp h ▸ List.mem_cons_self)
        · exact .inr (List.mem_cons_of_mem _ h)
      · rintro (h | h)
        · exact .inl (List.mem_append_left _ h)
        · rcases List.mem_cons.mp h with rfl | h
          · exact .inl (List.mem_append_right _ (by simp))
          · exact .inr h
theorem wishes_nd (b : Bk) (l : Lst) : (wishes b l).Nodup := dedup_nd _ _ (by simp)
theorem wishes_mem {b : Bk} {l : Lst} {e : Ep} : e ∈ wishes b l ↔ ∃ x ∈ wished b l, x.s.ep = e := by
  unfold wishes dedup
  rw [dedup_mem]
  constructor
  · rintro (h | h)
    · cases h
    · obtain ⟨r, hr, rfl⟩ := List.mem_map.mp h
      obtain ⟨x, hx, rfl⟩ := List.mem_map.mp ((rows_perm b l).mem_iff.mp hr)
      exact ⟨x, hx, rfl⟩
  · rintro ⟨x, hx, rfl⟩
    exact .inr (List.mem_map.mpr ⟨x.row, (rows_perm b l).mem_iff.mpr (List.mem_map.mpr ⟨x, hx, rfl⟩), rfl⟩)
theorem wishes_len {b : Bk} {l : Lst} (h : LOk l) : (wishes b l).length ≤ 10 := by
  have h1 := dedup_len (sortedRows b l) []
  rw [wishes_fold] at h1
  have h2 := rows_len (b := b) h
  simp at h1
  omega
theorem sends_mem {b : Bk} {l : Lst} {e : Ep} {n : Str} : n ∈ sendsOf b l e ↔ ∃ x ∈ wished b l, x.n = n ∧ x.s.ep = e := by
  unfold sendsOf
  rw [List.mem_map]
  constructor
  · rintro ⟨r, hr, rfl⟩
    obtain ⟨x, hx, rfl⟩ := List.mem_map.mp ((bn_perm b l e).mem_iff.mp hr)
    obtain ⟨h1, h2⟩ := List.mem_filter.mp hx
    exact ⟨x, h1, rfl, of_decide_eq_true h2⟩
  · rintro ⟨x, hx, rfl, he⟩
    exact ⟨x.bn, (bn_perm b l e).mem_iff.mpr (List.mem_map.mpr ⟨x, List.mem_filter.mpr ⟨hx, decide_eq_true he⟩, rfl⟩), rfl⟩
theorem win_look {b : Bk} {l : Lst} (hl : LOk l) {x : Wi} (hx : x ∈ wished b l) : look (windows b l) x.n = some x.win := by
  have h : (x.n, x.win) ∈ windows b l := List.mem_map.mpr ⟨x, hx, rfl⟩
  refine look_mem (x := (x.n, x.win)) ?_ h
  have e : (windows b l).map (·.1) = (wished b l).map (·.n) := by unfold windows; rw [List.map_map]; rfl
  rw [e]
  exact wished_nd hl
theorem win_of {b : Bk} {l : Lst} (hl : LOk l) {x : Wi} (hx : x ∈ wished b l) : winOf (windows b l) x.n = x.win := by
  unfold winOf
  rw [win_look hl hx]
  rfl
theorem free_lt {ws : List (Str × Win)} {p : Plan} {k r : Nat} {n : Str} (h : freeAt ws p k n = some r) : r < k := by
  unfold freeAt at h
  rw [List.find?_range_eq_some] at h
  exact List.mem_range.mp h.2.1
theorem first_mem {ws : List (Str × Win)} {p : Plan} {k : Nat} : ∀ {ns : List Str} {x : Str × Int}, firstFree ws p k ns = some x → x.1 ∈ ns ∧ ∃ r : Nat, r < k ∧ x.2 = (r : Int)
  | [], x, h => by cases h
  | n :: ns, x, h => by
    unfold firstFree at h
    cases e : freeAt ws p k n with
    | some r => rw [e] at h; cases h; exact ⟨List.mem_cons_self, r, free_lt e, rfl⟩
    | none =>
      rw [e] at h
      obtain ⟨h1, h2⟩ := first_mem h
      exact ⟨List.mem_cons_of_mem _ h1, h2⟩
theorem first_some {ws : List (Str × Win)} {p : Plan} {k r : Nat} {n : Str} : ∀ {ns : List Str}, ns.find? (fun n => (freeAt ws p k n).isSome) = some n → freeAt ws p k n = some r → firstFree ws p k ns = some (n, (r : Int))
  | [], h, _ => by cases h
  | m :: ns, h, hr => by
    rw [List.find?_cons] at h
    unfold firstFree
    cases e : freeAt ws p k m with
    | some r' =>
      rw [e] at h
      dsimp only [Option.isSome] at h
      cases h
      rw [e] at hr
      cases hr
      rfl
    | none =>
      rw [e] at h
      exact first_some h hr
theorem first_none {ws : List (Str × Win)} {p : Plan} {k : Nat} : ∀ {ns : List Str}, ns.find? (fun n => (freeAt ws p k n).isSome) = none → firstFree ws p k ns = none
  | [], _ => rfl
  | m :: ns, h => by
    rw [List.find?_cons] at h
    unfold firstFree
    cases e : freeAt ws p k m with
    | some r' => rw [e] at h; cases h
    | none => rw [e] at h; exact first_none h
structure PInv (b : Bk) (l : Lst) (k : Nat) (pre : List Ep) (p : Plan) : Prop where
  mem : ∀ x ∈ p, (∃ w ∈ wished b l, w.n = x.1 ∧ w.s.ep ∈ pre) ∧ 0 ≤ x.2 ∧ x.2 < (k : Int)
  nd : (p.map (·.1)).Nodup
  len : p.length ≤ pre.length
theorem PInv.new {b : Bk} {l : Lst} {k : Nat} {pre : List Ep} {p : Plan} (hl : LOk l) (h : PInv b l k pre p) {e : Ep} (he : e ∉ pre) {n : Str} (hn : n ∈ sendsOf b l e) : n ∉ p.map (·.1) := by
  intro z
  obtain ⟨x, hx, rfl⟩ := List.mem_map.mp z
  obtain ⟨⟨w, hw, e1, e2⟩, _⟩ := h.mem x hx
  obtain ⟨w', hw', e3, e4⟩ := sends_mem.mp hn
  have := wished_inj hl hw hw' (by rw [e1, e3])
  subst this
  exact he (e4 ▸ e2)
theorem PInv.step {b : Bk} {l : Lst} {k : Nat} {pre : List Ep} {p : Plan} (hl : LOk l) (h : PInv b l k pre p) {e : Ep} (he : e ∉ pre) : PInv b l k (pre ++ [e]) (takeStep b l k p e) := by
  have up : ∀ x ∈ p, (∃ w ∈ wished b l, w.n = x.1 ∧ w.s.ep ∈ pre ++ [e]) ∧ 0 ≤ x.2 ∧ x.2 < (k : Int) := fun x hx => by
    obtain ⟨⟨w, hw, e1, e2⟩, r⟩ := h.mem x hx
    exact ⟨⟨w, hw, e1, List.mem_append_left _ e2⟩, r⟩
  unfold takeStep
  cases hf : firstFree (windows b l) p k (sendsOf b l e) with
  | none => exact ⟨up, h.nd, by rw [List.length_append]; exact Nat.le_trans h.len (Nat.le_add_right _ _)⟩
  | some y =>
    obtain ⟨h1, r, h2, h3⟩ := first_mem hf
    have hnew := h.new hl he h1
    refine ⟨fun x hx => ?_, ?_, by unfold addTo; rw [List.length_append, List.length_append]; exact Nat.add_le_add_right h.len 1⟩
    · rcases List.mem_append.mp hx with hx | hx
      · exact up x hx
      · rw [List.mem_singleton.mp hx]
        obtain ⟨w', hw', e3, e4⟩ := sends_mem.mp h1
        exact ⟨⟨w', hw', e3, List.mem_append_right _ (by rw [e4]; simp)⟩, by rw [h3]; omega, by rw [h3]; omega⟩
    · unfold addTo
      rw [List.map_append]
      refine List.nodup_append.mpr ⟨h.nd, by simp, fun a ha c hc => ?_⟩
      have : c = y.1 := by simpa using hc
      rw [this]
      intro z
      exact hnew (z ▸ ha)
theorem pinv_of {b : Bk} {l : Lst} (hl : LOk l) (k : Nat) : ∀ (pre es : List Ep) (p : Plan), (pre ++ es).Nodup → PInv b l k pre p → PInv b l k (pre ++ es) (es.foldl (takeStep b l k) p)
  | pre, [], p, _, h => by rw [List.append_nil]; exact h
  | pre, e :: es, p, nd, h => by
    rw [List.foldl_cons]
    have hne : e ∉ pre := fun z => (List.nodup_append.mp nd).2.2 e z e List.mem_cons_self rfl
    have := pinv_of hl k (pre ++ [e]) es (takeStep b l k p e) (by rw [List.append_assoc]; exact nd) (h.step hl hne)
    rw [List.append_assoc] at this
    exact this
theorem pinv_pre {b : Bk} {l : Lst} (hl : LOk l) (k : Nat) {pre post : List Ep} {e : Ep} (h : wishes b l = pre ++ e :: post) : PInv b l k pre (pre.foldl (takeStep b l k) []) ∧ e ∉ pre := by
  have nd := wishes_nd b l
  rw [h] at nd
  have nd1 := (List.nodup_append.mp nd)
  refine ⟨?_, fun z => nd1.2.2 e z e List.mem_cons_self rfl⟩
  have := pinv_of (b := b) hl k [] pre [] (by simpa using nd1.1) ⟨fun x hx => (by cases hx), by simp, by simp⟩
  simpa using this
theorem taken_inv {b : Bk} {l : Lst} (hl : LOk l) (k : Nat) : PInv b l k (wishes b l) (taken b l k) := by
  unfold taken
  have := pinv_of (b := b) hl k [] (wishes b l) [] (by simpa using wishes_nd b l) ⟨fun x hx => (by cases hx), by simp, by simp⟩
  simpa using this
theorem PInv.ok {b : Bk} {l : Lst} (hl : LOk l) {k : Nat} {pre : List Ep} {p : Plan} (h : PInv b l k pre p) (hp : pre.length ≤ 10) : POk p ∧ (∀ x ∈ p, (look (windows b l) x.1).isSome) := by
  refine ⟨⟨h.nd, Nat.le_trans h.len hp⟩, fun x hx => ?_⟩
  obtain ⟨⟨w, hw, e1, _⟩, _⟩ := h.mem x hx
  rw [← e1, win_look hl hw]
  rfl
end SP
namespace SP
open PySem PySem.Spec PyProof.Rows L2 DD
def ctIsRec : Ct := fun ss st ok _ => ∃ k : Nat, ss = [dI (k : Int)] ∧ 1 ≤ k ∧ k ≤ 10 ∧ ok (.dat (.bl true)) st
def ctChkRec : Ct := fun ss st ok _ => ∃ k : Nat, ss = [dI (k : Int)] ∧ 1 ≤ k ∧ k ≤ 10 ∧ ok (.dat .non) st
def ownPlan (b : Bk) (l : Lst) (k : Nat) : Plan := asc (taken b l k)
def ctOwn (c : Cl) : Ct := ctBL c (fun k : Nat => [dI (k : Int)]) (fun _ _ k => 1 ≤ k ∧ k ≤ 10) fun b l k => dicD .int (ownPlan b l k)
def epAt (l : Lst) (n : Str) : Ep := ((look l n).map Snd.ep).getD ("", 0)
@[irreducible] def ctEps (c : Cl) : Ct := fun ss st ok _ => ∃ (l : Lst) (p : Plan), ss = [.dat (lstD c l), .dat (dicD .int p)] ∧ LOk l ∧ p.length ≤ 10 ∧ (∀ x ∈ p, (look l x.1).isSome) ∧ ok (.dat (.lst ((p.map fun x => epAt l x.1).map epD))) st
theorem ctEps_eq (c : Cl) {ss : List Sv} {st : Store} {ok : OK} {ex : EK} : ctEps c ss st ok ex = ∃ (l : Lst) (p : Plan), ss = [.dat (lstD c l), .dat (dicD .int p)] ∧ LOk l ∧ p.length ≤ 10 ∧ (∀ x ∈ p, (look l x.1).isSome) ∧ ok (.dat (.lst ((p.map fun x => epAt l x.1).map epD))) st := by unfold ctEps; rfl
def recorded (b : Bk) (l : Lst) (k : Nat) : List Ep := (ownPlan b l k).map fun x => epAt l x.1
def lost (b : Bk) (l : Lst) (k : Nat) : List Ep := (wishes b l).filter fun e => !decide (e ∈ recorded b l k)
def ctLost (c : Cl) : Ct := ctBL c (fun k : Nat => [dI (k : Int)]) (fun _ _ k => 1 ≤ k ∧ k ≤ 10) fun b l k => .lst ((lost b l k).map epD)
theorem own_names (b : Bk) (l : Lst) (k : Nat) : (ownPlan b l k).map (·.1) = sortN ((taken b l k).map (·.1)) := by
  unfold ownPlan asc
  rw [List.map_map]
  exact List.map_id _
theorem own_len {b : Bk} {l : Lst} (hl : LOk l) (k : Nat) : (ownPlan b l k).length ≤ 10 := by
  have h := congrArg List.length (own_names b l k)
  rw [List.length_map, (sortN_perm _).length_eq, List.length_map] at h
  have := (taken_inv (b := b) hl k).len
  have := wishes_len (b := b) hl
  omega
theorem own_mem {b : Bk} {l : Lst} (hl : LOk l) {k : Nat} {x : Str × Int} (hx : x ∈ ownPlan b l k) : x ∈ taken b l k := by
  unfold ownPlan asc at hx
  obtain ⟨n, hn, rfl⟩ := List.mem_map.mp hx
  obtain ⟨v, hv⟩ := look_is ((sortN_perm _).mem_iff.mp hn)
  rw [hv]
  exact look_some hv
theorem own_wish {b : Bk} {l : Lst} (hl : LOk l) {k : Nat} {x : Str × Int} (hx : x ∈ ownPlan b l k) : ∃ w ∈ wished b l, w.n = x.1 ∧ look l x.1 = some w.s := by
  obtain ⟨⟨w, hw, e1, _⟩, _⟩ := (taken_inv hl k).mem x (own_mem hl hx)
  exact ⟨w, hw, e1, by rw [← e1]; exact hl.get (wished_mem.mp hw).1⟩
theorem rec_word {b : Bk} {l : Lst} (hl : LOk l) {k : Nat} {e : Ep} (he : e ∈ recorded b l k) : isWord e.1 = true := by
  obtain ⟨x, hx, rfl⟩ := List.mem_map.mp he
  obtain ⟨w, hw, e1, e2⟩ := own_wish hl hx
  unfold epAt
  rw [e2]
  exact (hl.ok _ (wished_mem.mp hw).1).2.sh
theorem wish_word {b : Bk} {l : Lst} (hl : LOk l) {e : Ep} (he : e ∈ wishes b l) : isWord e.1 = true := by
  obtain ⟨x, hx, rfl⟩ := wishes_mem.mp he
  exact (hl.ok _ (wished_mem.mp hx).1).2.sh
def earlier (b : Bk) (l : Lst) (e : Ep) : List Ep := (wishes b l).takeWhile fun x => !decide (x = e)
def planBefore (b : Bk) (l : Lst) (k : Nat) (e : Ep) : Plan := (ownPlan b l k).filter fun x => decide (epAt l x.1 ∈ earlier b l e)
def ctBefore (c : Cl) : Ct := ctBL c (fun a : Nat × Ep => [dI (a.1 : Int), .dat (epD a.2)]) (fun b l a => (1 ≤ a.1 ∧ a.1 ≤ 10) ∧ a.2 ∈ wishes b l) fun b l a => dicD .int (planBefore b l a.1 a.2)
def wayOf (b : Bk) (l : Lst) (k : Nat) (e : Ep) (n : Str) : List (List Str) := (List.range k).map fun r : Nat => onRec (windows b l) (planBefore b l k e) (r : Int) n
def wayD (rs : List (List Str)) : Dt := .lst (rs.map namesD)
@[irreducible] def ctWay (c : Cl) : Ct := fun ss st ok _ => ∃ (b : Bk) (l : Lst) (k : Nat) (e : Ep), ss = [.dat (b.d c), .dat (lstD c l), dI (k : Int), .dat (epD e)] ∧ BOk b ∧ LOk l ∧ 1 ≤ k ∧ k ≤ 10 ∧ e ∈ lost b l k ∧ ∀ q, q ∉ keys st → ok (.own q) ((q, .dic ((sendsOf b l e).map fun n => (.inr n, .dat (wayD (wayOf b l k e n))))) :: st)
theorem ctWay_eq (c : Cl) {ss : List Sv} {st : Store} {ok : OK} {ex : EK} : ctWay c ss st ok ex = ∃ (b : Bk) (l : Lst) (k : Nat) (e : Ep), ss = [.dat (b.d c), .dat (lstD c l), dI (k : Int), .dat (epD e)] ∧ BOk b ∧ LOk l ∧ 1 ≤ k ∧ k ≤ 10 ∧ e ∈ lost b l k ∧ ∀ q, q ∉ keys st → ok (.own q) ((q, .dic ((sendsOf b l e).map fun n => (.inr n, .dat (wayD (wayOf b l k e n))))) :: st) := by unfold ctWay; rfl
abbrev Dl := List (Str × Int)
structure DOk (l : Lst) (d : Dl) : Prop where
  nd : (d.map (·.1)).Nodup
  len : d.length ≤ 10
  ok : ∀ x ∈ d, ∃ s, look l x.1 = some s ∧ 0 ≤ x.2 ∧ x.2 ≤ s.late
@[irreducible] def ctChkDel (c : Cl) : Ct := fun ss st ok _ => ∃ (l : Lst) (d : Dl), ss = [.dat (lstD c l), .dat (dicD .int d)] ∧ LOk l ∧ DOk l d ∧ ok (.dat .non) st
theorem ctChkDel_eq (c : Cl) {ss : List Sv} {st : Store} {ok : OK} {ex : EK} : ctChkDel c ss st ok ex = ∃ (l : Lst) (d : Dl), ss = [.dat (lstD c l), .dat (dicD .int d)] ∧ LOk l ∧ DOk l d ∧ ok (.dat .non) st := by unfold ctChkDel; rfl
def inWin (x : Wi) (d : Int) : Bool := decide (x.win.1 ≤ x.s.begin_ + d) && decide (x.s.end_ + d ≤ x.win.2)
def ctInWin (c : Cl) : Ct := ctBL c (fun a : Wi × Int => [.dat (.str a.1.n), dI a.2]) (fun b l a => a.1 ∈ wished b l) fun _ _ a => .bl (inWin a.1 a.2)
def wiOf (b : Bk) (l : Lst) (n : Str) : Option Wi := (wished b l).find? fun x => decide (x.n = n)
def wholeOf (b : Bk) (l : Lst) (p : Plan) (d : Dl) : List Str := (sortN (p.map (·.1))).filter fun n => match wiOf b l n with
  | some x => inWin x ((look d n).getD 0)
  | none => false
def ctWhole (c : Cl) : Ct := ctBL c (fun a : Plan × Dl => [.dat (dicD .int a.1), .dat (dicD .int a.2)]) (fun b l a => POk a.1 ∧ (∀ x ∈ a.1, ∃ w ∈ wished b l, w.n = x.1) ∧ DOk l a.2) fun b l a => namesD (wholeOf b l a.1 a.2)
def lates (l : Lst) (p : Plan) : Dl := p.map fun x => (x.1, ((look l x.1).map Snd.late).getD 0)
def surely (b : Bk) (l : Lst) (p : Plan) : List Str := wholeOf b l p (lates l p)
def ctSurely (c : Cl) : Ct := ctBL c (fun p : Plan => [.dat (dicD .int p)]) (fun b l p => POk p ∧ ∀ x ∈ p, ∃ w ∈ wished b l, w.n = x.1) fun b l p => namesD (surely b l p)
theorem wiOf_is {b : Bk} {l : Lst} (hl : LOk l) {x : Wi} (hx : x ∈ wished b l) : wiOf b l x.n = some x := by
  unfold wiOf
  cases e : (wished b l).find? (fun y => decide (y.n = x.n)) with
  | none =>
    have := List.find?_eq_none.mp e x hx
    simp at this
  | some y =>
    have h1 := List.mem_of_find?_eq_some e
    have h2 : y.n = x.n := of_decide_eq_true (List.find?_some (p := fun y : Wi => decide (y.n = x.n)) e)
    rw [wished_inj hl h1 hx h2]
theorem eps_depth : ∀ es : List Ep, PyData.depthAll (es.map epP) ≤ 1
  | [] => Nat.zero_le _
  | e :: es => by
    rw [List.map_cons, PyData.depthAll]
    have h1 : (epP e).depth ≤ 1 := by simp [epP, PyData.depth, PyData.depthAll]
    have := eps_depth es
    omega
theorem eps_shaped (es : List Ep) (h : ∀ e ∈ es, isWord e.1 = true) : SeqAt.shaped (.list (es.map epP)) = true := by
  have h1 : (PyData.list (es.map epP)).canLay0 = true := by rw [PyData.canLay0]; exact eps_lay es h
  have h2 : (PyData.list (es.map epP)).depth ≤ 64 := by
    have := eps_depth es
    rw [PyData.depth]
    omega
  unfold SeqAt.shaped
  rw [h1, decide_eq_true h2]
  rfl
theorem earlier_is {b : Bk} {l : Lst} {e : Ep} {pre post : List Ep} (h : wishes b l = pre ++ e :: post) (hn : e ∉ pre) : earlier b l e = pre := by
  unfold earlier
  rw [h]
  clear h
  induction pre with
  | nil => simp
  | cons a pre ih =>
    have h1 : ¬ a = e := fun z => hn (z ▸ List.mem_cons_self)
    rw [List.cons_append, List.takeWhile_cons, decide_eq_false h1]
    rw [if_pos (by rfl), ih fun z => hn (List.mem_cons_of_mem _ z)]
theorem cut_to {α : Type} (xs : List α) (j : Nat) (h : j ≤ xs.length) : DD.cutD xs none (some (j : Int)) = xs.take j := by
  unfold DD.cutD
  rw [HT.sIx_none, HT.sIx_nat, Nat.min_eq_left h, List.drop_zero, Nat.sub_zero]
theorem wish_split {b : Bk} {l : Lst} {e : Ep} (h : e ∈ wishes b l) : ∃ pre post, wishes b l = pre ++ e :: post ∧ e ∉ pre := by
  obtain ⟨pre, post, hs⟩ := List.append_of_mem h
  refine ⟨pre, post, hs, fun z => ?_⟩
  have nd := wishes_nd b l
  rw [hs] at nd
  exact (List.nodup_append.mp nd).2.2 e z e List.mem_cons_self rfl
theorem lost_mem {b : Bk} {l : Lst} {k : Nat} {e : Ep} (h : e ∈ lost b l k) : e ∈ wishes b l := (List.mem_filter.mp h).1
theorem own_nd {b : Bk} {l : Lst} (hl : LOk l) (k : Nat) : ((ownPlan b l k).map (·.1)).Nodup := by
  rw [own_names]
  exact (sortN_perm _).nodup_iff.mpr (taken_inv hl k).nd
theorem before_nd {b : Bk} {l : Lst} (hl : LOk l) (k : Nat) (e : Ep) : ((planBefore b l k e).map (·.1)).Nodup := (own_nd hl k).sublist (List.filter_sublist.map _)
theorem nodup_of {α : Type} {l : List (Str × α)} {f : Str × α → Key × Dt} (h : (l.map (·.1)).Nodup) (hf : ∀ x, (f x).1 = Sum.inr x.1 := by intro _; rfl) : (l.map ((fun kv : Key × Dt => kv.1) ∘ f)).Nodup := by
  have e : l.map ((fun kv : Key × Dt => kv.1) ∘ f) = (l.map (·.1)).map fun n => (Sum.inr n : Key) := by
    rw [List.map_map]
    exact List.map_congr_left fun x _ => hf x
  rw [e]
  exact nodup_inr h
theorem fmd_if {α : Type} (q : α → Bool) (f : α → Key × Dt) (l : List α) : l.filterMap (fun x => if q x = true then some (f x) else none) = (l.filter q).map f := fm_if q f l
theorem before_ok {b : Bk} {l : Lst} (hl : LOk l) (k : Nat) (e : Ep) : POk (planBefore b l k e) ∧ ∀ x ∈ planBefore b l k e, (look (windows b l) x.1).isSome := by
  refine ⟨⟨before_nd hl k e, Nat.le_trans (List.length_filter_le _ _) (own_len hl k)⟩, fun x hx => ?_⟩
  obtain ⟨w, hw, e1, _⟩ := own_wish hl (List.mem_filter.mp hx).1
  rw [← e1, win_look hl hw]
  rfl
theorem sends_nd {b : Bk} {l : Lst} (hl : LOk l) (e : Ep) : (sendsOf b l e).Nodup := by
  have h1 : (sendsOf b l e).Perm (((wished b l).filter fun x => decide (x.s.ep = e)).map (·.n)) := by
    have := (bn_perm b l e).map (·.2)
    unfold bnRaw at this
    rw [List.map_map] at this
    exact this
  exact h1.nodup_iff.mpr ((wished_nd hl).sublist (List.filter_sublist.map _))
theorem sends_len {b : Bk} {l : Lst} (hl : LOk l) (e : Ep) : (sendsOf b l e).length ≤ 10 := by
  unfold sendsOf
  rw [List.length_map, (bn_perm b l e).length_eq]
  exact bn_len hl e
theorem lates_is {b : Bk} {l : Lst} {p : Plan} (hl : LOk l) (hw : ∀ x ∈ p, ∃ w ∈ wished b l, w.n = x.1) : ∀ x ∈ p, ∃ w ∈ wished b l, w.n = x.1 ∧ look l x.1 = some w.s := fun x hx => by
  obtain ⟨w, h1, h2⟩ := hw x hx
  exact ⟨w, h1, h2, by rw [← h2]; exact hl.get (wished_mem.mp h1).1⟩
theorem lates_ok {b : Bk} {l : Lst} {p : Plan} (hl : LOk l) (hp : POk p) (hw : ∀ x ∈ p, ∃ w ∈ wished b l, w.n = x.1) : DOk l (lates l p) := by
  have e : (lates l p).map (·.1) = p.map (·.1) := by unfold lates; rw [List.map_map]; rfl
  refine ⟨by rw [e]; exact hp.nd, by unfold lates; rw [List.length_map]; exact hp.len, fun x hx => ?_⟩
  obtain ⟨y, hy, rfl⟩ := List.mem_map.mp hx
  obtain ⟨w, h1, h2, h3⟩ := lates_is hl hw y hy
  have h4 := (hl.ok _ (wished_mem.mp h1).1).2
  refine ⟨w.s, h3, ?_, ?_⟩
  · dsimp only; rw [h3]; exact h4.l0
  · dsimp only; rw [h3]; exact Int.le_refl _
end SP
namespace SP
open PySem PySem.Spec PyProof.Rows L2 DD
/-- Book(rules, seen) -/
@[irreducible] def ctBook (c : Cl) : Ct := fun ss st ok _ => ∃ (q : Addr) (st0 : Store) (rs : List Rul) (es : List Ep), ss = [.own q, .dat (.tup (rs.map (Rul.d c.R))), .dat (.tup (es.map epD))] ∧ st = (q, .ins c.B []) :: st0 ∧ rs.length ≤ 6 ∧
  ok (.dat .non) ((q, .ins c.B [("_rules", .dat (.tup (rs.map (Rul.d c.R)))), ("_seen", .dat (.tup (es.map epD)))]) :: st0)
theorem ctBook_eq (c : Cl) {ss : List Sv} {st : Store} {ok : OK} {ex : EK} : ctBook c ss st ok ex = ∃ (q : Addr) (st0 : Store) (rs : List Rul) (es : List Ep), ss = [.own q, .dat (.tup (rs.map (Rul.d c.R))), .dat (.tup (es.map epD))] ∧ st = (q, .ins c.B []) :: st0 ∧ rs.length ≤ 6 ∧
  ok (.dat .non) ((q, .ins c.B [("_rules", .dat (.tup (rs.map (Rul.d c.R)))), ("_seen", .dat (.tup (es.map epD)))]) :: st0) := by unfold ctBook; rfl
def Rul.more (r : Rul) (m : Int) : Rul := { r with after := if r.after + m < 60 then r.after + m else 60 }
def Bk.more (b : Bk) (m : Int) : Bk := ⟨b.rules.map fun r => r.more m, b.seen⟩
theorem more_ok {b : Bk} (h : BOk b) {m : Int} (hm : 0 ≤ m) : BOk (b.more m) := by
  refine ⟨by unfold Bk.more; rw [List.length_map]; exact h.len, fun x hx => ?_, h.seen, h.sok⟩
  obtain ⟨r, hr, rfl⟩ := List.mem_map.mp hx
  obtain ⟨a, c1, c2, c3, c4, c5, c6, c7, c8, c9⟩ := h.ok r hr
  refine ⟨a, c1, c2, c3, c4, c5, c6, c7, ?_, ?_⟩
  · unfold Rul.more; dsimp only; split <;> omega
  · unfold Rul.more; dsimp only; split <;> omega
def allSure (b : Bk) (l : Lst) (k : Nat) : Bool := decide (surely b l (ownPlan b l k) = (ownPlan b l k).map (·.1))
def leastMore (b : Bk) (l : Lst) (k : Nat) : Option Nat := (List.range 61).find? fun m => allSure (b.more (m : Int)) l k && decide ((lost (b.more (m : Int)) l k).length ≤ (lost b l k).length)
theorem own_ok {b : Bk} {l : Lst} (hl : LOk l) (k : Nat) : POk (ownPlan b l k) := ⟨own_nd hl k, own_len hl k⟩
/-- Listing(sendings) -/
@[irreducible] def ctListing (c : Cl) : Ct := fun ss st ok _ => ∃ (q : Addr) (st0 : Store) (l : Lst), ss = [.own q, .dat (dicD (Snd.d c.D) l)] ∧ st = (q, .ins c.L []) :: st0 ∧ l.length ≤ 10 ∧ (l.map (·.1)).Pairwise (fun a b => a.cps.toList < b.cps.toList) ∧ (∀ x ∈ l, isWord x.1 = true) ∧
  ok (.dat .non) ((q, .ins c.L [("_sendings", .dat (dicD (Snd.d c.D) l))]) :: st0)
theorem ctListing_eq (c : Cl) {ss : List Sv} {st : Store} {ok : OK} {ex : EK} : ctListing c ss st ok ex = ∃ (q : Addr) (st0 : Store) (l : Lst), ss = [.own q, .dat (dicD (Snd.d c.D) l)] ∧ st = (q, .ins c.L []) :: st0 ∧ l.length ≤ 10 ∧ (l.map (·.1)).Pairwise (fun a b => a.cps.toList < b.cps.toList) ∧ (∀ x ∈ l, isWord x.1 = true) ∧
  ok (.dat .non) ((q, .ins c.L [("_sendings", .dat (dicD (Snd.d c.D) l))]) :: st0) := by unfold ctListing; rfl
theorem sortN_same {ns : List Str} (h : ns.Pairwise fun a b => a.cps.toList < b.cps.toList) : sortN ns = ns := by
  refine (sort_unique strLe_trans strLe_total strLe_anti (List.Perm.refl ns) (h.imp fun {a b} k => ?_)).symm
  unfold strLe
  exact decide_eq_true (Std.le_of_lt k)
theorem names_of : ∀ ns : List Str, PyOfs (ns.map Dt.str) (ns.map PyData.str)
  | [] => .nil
  | n :: ns => .cons (.str n) (names_of ns)
theorem names_lay (ns : List Str) (h : ∀ n ∈ ns, isWord n = true) : PyData.canLayAll0 (ns.map PyData.str) = true := by
  induction ns with
  | nil => rfl
  | cons e es ih =>
    rw [List.map_cons]
    unfold PyData.canLayAll0
    rw [ih fun e h' => h e (List.mem_cons_of_mem _ h')]
    have hs : PyData.strOk e = true := word_ok (h e List.mem_cons_self)
    simp [PyData.canLay0, hs]
theorem names_depth : ∀ es : List Str, PyData.depthAll (es.map PyData.str) = 0
  | [] => rfl
  | e :: es => by
    rw [List.map_cons, PyData.depthAll, names_depth es]
    simp [PyData.depth]
theorem names_shaped (ns : List Str) (h : ∀ n ∈ ns, isWord n = true) : SeqAt.shaped (.list (ns.map PyData.str)) = true := by
  have h1 : (PyData.list (ns.map PyData.str)).canLay0 = true := by rw [PyData.canLay0]; exact names_lay ns h
  have h2 : (PyData.list (ns.map PyData.str)).depth ≤ 64 := by
    rw [PyData.depth, names_depth]
    decide
  unfold SeqAt.shaped
  rw [h1, decide_eq_true h2]
  rfl
theorem names_eqv : ∀ a b : List Str, PyData.eqv (.list (a.map PyData.str)) (.list (b.map PyData.str)) = decide (a = b) := by
  intro a b
  rw [PyData.eqv]
  induction a generalizing b with
  | nil => cases b <;> simp [PyData.eqvAll]
  | cons x a ih =>
    cases b with
    | nil => simp [PyData.eqvAll]
    | cons y b =>
      rw [List.map_cons, List.map_cons, PyData.eqvAll, ih b]
      by_cases h1 : x = y <;> by_cases h2 : a = b <;> simp [PyData.eqv, h1, h2]
theorem own_word {b : Bk} {l : Lst} (hl : LOk l) {k : Nat} {n : Str} (h : n ∈ (ownPlan b l k).map (·.1)) : isWord n = true := by
  obtain ⟨x, hx, rfl⟩ := List.mem_map.mp h
  obtain ⟨w, hw, e1, e2⟩ := own_wish hl hx
  rw [← e1]
  exact (hl.ok _ (wished_mem.mp hw).1).1
theorem whole_sub {b : Bk} {l : Lst} {p : Plan} {d : Dl} {n : Str} (h : n ∈ wholeOf b l p d) : n ∈ p.map (·.1) := (sortN_perm _).mem_iff.mp (List.mem_filter.mp h).1
theorem rok_none {r : Rul} (h : ROk r) : wrongR (.str r.show_) (.int r.first) (.int r.last) (.int r.priority) (.int r.before) (.int r.after) = none := by
  have h1 : wordD (.str r.show_) = true := h.sh
  have n : ∀ {i a b : Int}, a ≤ i → i ≤ b → isNum (.int i) a b = true := fun {i a b} x y => by unfold isNum; dsimp only; rw [decide_eq_true x, decide_eq_true y]; rfl
  unfold wrongR
  rw [h1, n h.f1 (Int.le_trans h.f2 h.l2), show inI (.int r.first) = r.first from rfl, n h.f2 h.l2, n h.p1 h.p2, n h.b0 h.b1, n h.a0 h.a1]
  rfl
theorem sok_none {r : Snd} (h : SOk r) : wrongS (.str r.channel) (.str r.show_) (.int r.episode) (.int r.begin_) (.int r.end_) (.int r.late) = none := by
  have h1 : wordD (.str r.show_) = true := h.sh
  have h0 : wordD (.str r.channel) = true := h.ch
  have n : ∀ {i a b : Int}, a ≤ i → i ≤ b → isNum (.int i) a b = true := fun {i a b} x y => by unfold isNum; dsimp only; rw [decide_eq_true x, decide_eq_true y]; rfl
  unfold wrongS
  rw [h0, h1, n h.e1 h.e2, n h.b0 h.b1, show inI (.int r.begin_) = r.begin_ from rfl, n (show r.begin_ + 1 ≤ r.end_ from h.n0) h.n1, n h.l0 h.l1]
  rfl
end SP
namespace SP
open PySem PySem.Spec PyProof.Rows L2 DD
def sndT (s : Snd) : Dt := .tup [.str s.channel, .str s.show_, .int s.episode, .int s.begin_, .int s.end_, .int s.late]
def rulT (r : Rul) : Dt := .tup [.str r.show_, .int r.first, .int r.last, .int r.priority, .int r.before, .int r.after]
def drawnD (b : Bk) (l : Lst) : Dt := .tup [dicD sndT l, .lst (b.rules.map rulT), .tup (b.seen.map epD)]
@[irreducible] def ctLListing (c : Cl) : Ct := fun ss st ok _ => ∃ l : Lst, ss = [.dat (dicD sndT l)] ∧ LOk l ∧ ok (.dat (lstD c l)) st
theorem ctLListing_eq (c : Cl) {ss : List Sv} {st : Store} {ok : OK} {ex : EK} : ctLListing c ss st ok ex = ∃ l : Lst, ss = [.dat (dicD sndT l)] ∧ LOk l ∧ ok (.dat (lstD c l)) st := by unfold ctLListing; rfl
@[irreducible] def ctLBook (c : Cl) : Ct := fun ss st ok _ => ∃ b : Bk, ss = [.dat (.lst (b.rules.map rulT)), .dat (.tup (b.seen.map epD))] ∧ BOk b ∧ ok (.dat (b.d c)) st
theorem ctLBook_eq (c : Cl) {ss : List Sv} {st : Store} {ok : OK} {ex : EK} : ctLBook c ss st ok ex = ∃ b : Bk, ss = [.dat (.lst (b.rules.map rulT)), .dat (.tup (b.seen.map epD))] ∧ BOk b ∧ ok (.dat (b.d c)) st := by unfold ctLBook; rfl
theorem win_pos {b : Bk} {l : Lst} (hb : BOk b) (hl : LOk l) {x : Wi} (hx : x ∈ wished b l) : x.win.1 < x.win.2 := by
  obtain ⟨h1, h2⟩ := wished_mem.mp hx
  have hs := (hl.ok _ h1).2
  have hr : x.r ∈ b.rules := by
    unfold ruleFor ruleOf at h2
    split at h2
    · cases h2
    · exact List.mem_of_find?_eq_some h2
  have hr := hb.ok _ hr
  have := hs.b0
  have := hs.n0
  have := hr.b0
  have := hr.a0
  unfold Wi.win
  dsimp only at *
  split <;> omega
def epKey (e : Ep) : List Key := [.inr e.1, .inl e.2]
end SP
namespace SP
open PySem PySem.Spec PyProof.Rows L2 DD
abbrev bnLe : Bn → Bn → Bool := PySem.W.dataLe false bnP
end SP
namespace SP
open PySem PySem.Spec PyProof.Rows L2 DD
end SP
namespace SP
open PySem PySem.Spec PyProof.Rows L2 DD
end SP
namespace SP
open PySem PySem.Spec PyProof.Rows L2 DD
end SP
namespace SP
open PySem PySem.Spec PyProof.Rows L2 DD
/-- what is missed: the episode, what was taken by then -/
def missed (b : Bk) (l : Lst) (k : Nat) : List Ep → Plan → List (Ep × Plan)
  | [], _ => []
  | e :: es, p => match firstFree (windows b l) p k (sendsOf b l e) with
    | some x => missed b l k es (p ++ [x])
    | none => (e, p) :: missed b l k es p
end SP
namespace SP
open PySem PySem.Spec PyProof.Rows L2 DD
end SP
namespace SP
open PySem PySem.Spec PyProof.Rows L2 DD
end SP
namespace DD
open PySem PySem.Spec PyProof.Rows L2
@[irreducible] def lcO (g : DG) (tt : DT) (te : DE) (vs : List Nat) (p : Addr) (xs : List Sv) (Δ : List Sv) (st1 : Store) (ok : OK) : Prop := ∀ D, D ∉ keys st1 → ∃ J : Nat → List Sv → Store → Prop, J 0 [] st1 ∧ (∀ i acc st', J i acc st' → ∃ j : Nat, st'[j]? = some (p, Ob.lst xs)) ∧
  (∀ i d acc st', xs[i]? = some d → J i acc st' → D ∉ keys st' → g d (wipeD Δ vs) ((D, .lst acc) :: st') fun Δ2 st2 => tt Δ2 st2 (fun b st3 =>
    (b = true → te Δ2 st3 (fun y st4 => ∃ acc' st5, st4 = (D, .lst acc') :: st5 ∧ acc'.length < sizeLine ∧ J (i + 1) (acc' ++ [y]) st5) fun _ _ => False) ∧ (b = false → ∃ acc' st5, st3 = (D, .lst acc') :: st5 ∧ J (i + 1) acc' st5)) fun _ _ => False) ∧
  ∀ acc st', J xs.length acc st' → ∃ ds, AllD acc ds ∧ ok (.dat (.lst ds)) st'
theorem lcO_eq (g : DG) (tt : DT) (te : DE) (vs : List Nat) (p : Addr) (xs : List Sv) (Δ : List Sv) (st1 : Store) (ok : OK) : lcO g tt te vs p xs Δ st1 ok = (∀ D, D ∉ keys st1 → ∃ J : Nat → List Sv → Store → Prop, J 0 [] st1 ∧ (∀ i acc st', J i acc st' → ∃ j : Nat, st'[j]? = some (p, Ob.lst xs)) ∧
  (∀ i d acc st', xs[i]? = some d → J i acc st' → D ∉ keys st' → g d (wipeD Δ vs) ((D, .lst acc) :: st') fun Δ2 st2 => tt Δ2 st2 (fun b st3 =>
    (b = true → te Δ2 st3 (fun y st4 => ∃ acc' st5, st4 = (D, .lst acc') :: st5 ∧ acc'.length < sizeLine ∧ J (i + 1) (acc' ++ [y]) st5) fun _ _ => False) ∧ (b = false → ∃ acc' st5, st3 = (D, .lst acc') :: st5 ∧ J (i + 1) acc' st5)) fun _ _ => False) ∧
  ∀ acc st', J xs.length acc st' → ∃ ds, AllD acc ds ∧ ok (.dat (.lst ds)) st') := by
  unfold lcO
  rfl
theorem walk_own {K : PySem.W.Frag} {a : Addr} {n : Nat} : Walk (Itl K a) n (fun H => ∃ xs, SqL K H a xs ∧ xs.length = n) (fun i H x H' => H' = H ∧ ∀ xs, SqL K H a xs → xs[i]? = some x) :=
  ⟨fun i _ hi ⟨xs, q, e⟩ => ⟨xs, xs[i], q, by simp [e, hi]⟩, fun _ ⟨xs, q, e⟩ => ⟨xs, q, Nat.le_of_eq e⟩, fun _ _ _ _ _ _ y => ⟨y.1, y.2⟩⟩
section
variable {K : PySem.W.Frag} {W : WX} {st : Store} {I H : Hp}
theorem lcO_go {g : DG} {tt : DT} {te : DE} {vs : List Nat} {Δ : List Sv} {ok : OK} {σ : L2.St} {Q : VK} {p : Addr} {xs : List Sv} (w1 : Wd K st I H) (sl : Sl K Δ I σ) (h1 : lcO g tt te vs p xs Δ st ok) (c : Cont K st I H ok Q) :
    ∀ D, H D = none → ∃ W : Nat → Nat → Hp → Prop, (∃ m, W 0 m (upd H D (.lst []))) ∧ ∀ i m H, W i m H →
  ((Itl K p).stop i H ∧ Q (.ref D) H) ∨ ((Itl K p).go i H ∧ ∃ Nx : Hp → Prop, (∀ H', Nx H' → ∃ m', m' < m ∧ W (i + 1) m' H') ∧ ∀ x H', (Itl K p).yld i H x H' → lowGw K vs g x (wipe σ vs) H' fun σ2 H2 => wipe σ2 vs = wipe σ vs ∧ lowT K tt W0 σ2 H2 fun b H3 =>
    if b = true then low K te W0 σ2 H3 fun y H4 => ∃ acc, H4 D = some (.lst acc) ∧ acc.length < sizeLine ∧ Nx (upd H4 D (.lst (acc ++ [y]))) else Nx H3) := by
  intro D hD
  obtain ⟨np, w2, s2⟩ := new_own (o := .lst []) (ob := .lst []) w1 hD (.lst .nil)
  rw [lcO_eq] at h1
  obtain ⟨Jv, j0, jp, jt, je⟩ := h1 D np
  have at_p : ∀ {i acc st' I' H'}, Jv i acc st' → Wd K ((D, .lst acc) :: st') I' H' → ∃ us, SqL K H' p us ∧ IsSs K I' xs us := fun {i acc st' I' H'} hj w' => by
    obtain ⟨j, hjj⟩ := jp i acc st' hj
    obtain ⟨o, ho, io⟩ := own_at (j := j + 1) w' hjj
    cases io with
    | lst hs => exact ⟨_, .inl (.inl ho), hs⟩
  refine lc_it (walk_own (n := xs.length)) (fun i H' => ∃ acc st' I', Jv i acc st' ∧ Wd K ((D, .lst acc) :: st') I' H' ∧ Stp st I H ((D, .lst acc) :: st') I' H') ⟨[], st, I, j0, w2, s2⟩ (fun i H' _ ⟨acc, st', I', hj, w', s'⟩ => ?_) ?_ ?_
  · obtain ⟨us, q, hs⟩ := at_p hj w'
    exact ⟨us, q, (paired_len hs).symm⟩
  · rintro i x H' H3 hi ⟨acc, st', I', hj, w', s'⟩ ⟨e3, y⟩
    subst e3
    obtain ⟨us, q, hs⟩ := at_p hj w'
    obtain ⟨d, hd, ix⟩ := paired_back hs (y us q)
    have nd : D ∉ keys st' := (List.nodup_cons.mp w'.nd).1
    refine ⟨d, _, _, I', _, w', sl_wipe (sl.mono s'.ii) vs, ix, jt i d acc st' hd hj nd, fun Δ4 st4 σ4 I4 H4 h4 w4 s4 l4 e4 => ?_⟩
    have s14 := s'.trans s4
    refine ⟨by rw [e4, wipe_wipe], ?_⟩
    refine lowT_go w4 l4 h4 (fun b st5 I5 H5 h5 w5 s5 => ?_) (fun _ _ _ _ _ _ z => z.elim)
    have s15 := s14.trans s5
    cases b with
    | true =>
      refine iteT (low_go w5 (l4.mono s5.ii) (h5.1 rfl) (fun z st6 u I6 H6 h6 w6 s6 i6 => ?_) (fun _ _ _ _ _ _ z => z.elim))
      obtain ⟨acc', st7, rfl, hl, hj'⟩ := h6
      obtain ⟨_, o, ho, io⟩ := w6.own D _ List.mem_cons_self
      cases io with
      | @lst _ ws hs =>
        obtain ⟨w7, s7⟩ := set_own (j := 0) (o' := .lst (ws ++ [u])) (ob' := .lst (acc' ++ [z])) w6 rfl (.lst (paired_app hs (.cons i6 .nil)))
        exact ⟨ws, ho, by rw [← paired_len hs]; exact hl, acc' ++ [z], st7, I6, hj', w7, (s15.trans s6).trans s7⟩
    | false =>
      refine iteF ?_
      obtain ⟨acc', st7, rfl, hj'⟩ := h5.2 rfl
      exact ⟨acc', st7, I5, hj', w5, s15⟩
  · rintro H' ⟨acc, st', I', hj, w', s'⟩
    obtain ⟨ds, ha, hok⟩ := je _ _ hj
    obtain ⟨_, o, ho, io⟩ := w'.own D _ List.mem_cons_self
    cases io with
    | lst hs =>
      obtain ⟨w9, s9, e9⟩ := pub_head w' ho s'
      exact c _ _ _ _ _ hok w9 s9 (.dat (.lst upd_same ((isDs_of ha hs).mono e9)))
def dLcO (te : DE) (g : DG) (tt : DT) (el : DE) (vs : List Nat) : DE := fun Δ st ok ex => te Δ st (fun x st1 => match x with
  | .own p => ∃ (j : Nat) (xs : List Sv), st1[j]? = some (p, Ob.lst xs) ∧ lcO g tt el vs p xs Δ st1 ok
  | _ => False) ex
theorem low_lcO {te el : DE} {g : DG} {tt : DT} {vs : List Nat} : ∀ σ H Q, low K (dLcO te g tt el vs) W σ H Q → tLc (iList K (low K te W)) (lowGw K vs g) (lowT K tt W0) (low K el W0) vs σ H Q := by
  rintro σ H Q ⟨Δ, st, I, ok, ex, wd, sl, h, c, cx⟩
  refine low_go wd sl h (fun x st1 v I1 H1 h1 w1 s1 i1 => ?_) cx
  cases i1 with
  | dat hd => exact h1.elim
  | own p =>
    obtain ⟨j, xs, hj, h1⟩ := h1
    obtain ⟨o, ho, io⟩ := own_at w1 hj
    cases io with
    | lst hs => exact ⟨p, rfl, ⟨_, .inl (.inl ho)⟩, lcO_go w1 (sl.mono s1.ii) h1 (c.go s1)⟩
end
theorem dlcO {X : Cx} {W : WX} {elt tg iter : Expr} {ifs : List Expr} {scope : Scope} {pos : Pos} (own : List (Str × Nat)) {ti te : DE} {g : DG} {tt : DT} (hN : X.N.Nodup) (hi : PEd X W iter ti) (ok : BlkOk X.N X.env.scope scope own)
    (hg : ∀ (s : Shared) (H : Hp) (C : Addr) (cl : List (Str × Addr)) (fp : List Addr), PGw (X.blk s H scope (compEnvC scope cl C X.env) fp) (own.map (·.2)) tg g) (ht : ∀ (s : Shared) (H : Hp) (C : Addr) (cl : List (Str × Addr)) (fp : List Addr), PTsd (X.blk s H scope (compEnvC scope cl C X.env) fp) ifs tt)
    (he : ∀ (s : Shared) (H : Hp) (C : Addr) (cl : List (Str × Addr)) (fp : List Addr), PEd (X.blk s H scope (compEnvC scope cl C X.env) fp) W0 elt te) (hc : X.calm = true := by rfl) (hs : ∀ x, foldedSetIterable iter X.env x = pure x := by intro _; rfl) :
    PEd X W (.ListComp elt [⟨tg, iter, ifs, 0⟩] scope pos) (dLcO ti g tt te (own.map (·.2))) := PE.imp (pe_lc hc hN (pi_list hi) ok hg ht he hs) low_lcO
/-- what is made, the store as it was -/
theorem lcO_pure {α : Type} {g : DG} {tt : DT} {te : DE} {vs : List Nat} {p : Addr} {xs : List Sv} {Δ : List Sv} {st : Store} {ok : OK} (as : List α) (e : α → Dt) (f : α → Option Dt) (hx : xs = as.map fun a => .dat (e a)) {j : Nat} (hp : st[j]? = some (p, Ob.lst xs))
    (hb : ∀ (i : Nat) a D acc, as[i]? = some a → D ∉ keys st → LcJ as f st i acc st → g (.dat (e a)) (wipeD Δ vs) ((D, .lst acc) :: st) fun Δ2 st2 => tt Δ2 st2 (fun b st3 =>
      (b = true → te Δ2 st3 (fun y st4 => ∃ acc' st5, st4 = (D, .lst acc') :: st5 ∧ acc'.length < sizeLine ∧ LcJ as f st (i + 1) (acc' ++ [y]) st5) fun _ _ => False) ∧ (b = false → ∃ acc' st5, st3 = (D, .lst acc') :: st5 ∧ LcJ as f st (i + 1) acc' st5)) fun _ _ => False)
    (hk : ok (.dat (.lst (as.filterMap f))) st) : lcO g tt te vs p xs Δ st ok := by
  subst hx
  rw [lcO_eq]
  intro D hD
  refine ⟨LcJ as f st, ⟨rfl, by simp⟩, ?_, ?_, ?_⟩
  · rintro i acc st' J
    obtain rfl := J.st
    exact ⟨j, hp⟩
  · rintro i d acc st' hd J hD'
    obtain rfl := J.st
    rw [List.getElem?_map] at hd
    cases ea : as[i]? with
    | none => rw [ea] at hd; cases hd
    | some a =>
      rw [ea] at hd
      cases hd
      exact hb i a D acc ea hD' J
  · rintro acc st' J
    obtain rfl := J.st
    have e := J.acc
    rw [List.length_map, List.take_length] at e
    subst e
    exact ⟨_, .map _, hk⟩
end DD
namespace SP
open PySem PySem.Spec PyProof.Rows L2 DD
end SP
namespace SP
open PySem PySem.Spec PyProof.Rows L2 DD
theorem inWin_is {b : Bk} {l : Lst} (hb : BOk b) (hl : LOk l) {x : Wi} (hx : x ∈ wished b l) {d : Int} (hd : 0 ≤ d) : inWin x d = decide (d ≤ x.r.after) := by
  obtain ⟨h1, h2⟩ := wished_mem.mp hx
  have hs := (hl.ok _ h1).2
  have hr : x.r ∈ b.rules := by
    unfold ruleFor ruleOf at h2
    split at h2
    · cases h2
    · exact List.mem_of_find?_eq_some h2
  have hr := hb.ok _ hr
  have := hs.b0
  have := hr.b0
  have := hr.a0
  unfold inWin Wi.win
  dsimp only at *
  rw [← Bool.decide_and]
  apply decide_eq_decide.mpr
  split <;> omega
/-- names are plain data -/
theorem names_pl {n : Nat} (ns : List Str) (h : ns.length ≤ sizeLine) : Pl (n + 2) (namesD ns) := by
  refine .lst (fun d hd => ?_) (by rw [List.length_map]; exact h)
  obtain ⟨z, _, rfl⟩ := List.mem_map.mp hd
  exact .str n z
theorem count_fold {α : Type} (l : List α) (c : Nat) : l.foldl (fun s _ => s + 1) c = c + l.length := by
  induction l generalizing c with
  | nil => rfl
  | cons a l ih => rw [List.foldl_cons, ih, List.length_cons]; omega
end SP
namespace SP
open PySem PySem.Spec PyProof.Rows L2 DD
def planEps (l : Lst) (p : Plan) : List Ep := p.map fun x => epAt l x.1
theorem first_ep {b : Bk} {l : Lst} (hl : LOk l) {p : Plan} {k : Nat} {e : Ep} {x : Str × Int} (h : firstFree (windows b l) p k (sendsOf b l e) = some x) : epAt l x.1 = e := by
  obtain ⟨h1, _⟩ := first_mem h
  obtain ⟨w, hw, e1, e2⟩ := sends_mem.mp h1
  unfold epAt
  rw [← e1, hl.get (x := (w.n, w.s)) (wished_mem.mp hw).1]
  exact e2
theorem eps_up {b : Bk} {l : Lst} (hl : LOk l) (k : Nat) : ∀ (es : List Ep) (p : Plan) (e : Ep), (e ∈ planEps l p → e ∈ planEps l (es.foldl (takeStep b l k) p)) ∧ (e ∈ planEps l (es.foldl (takeStep b l k) p) → e ∈ planEps l p ∨ e ∈ es)
  | [], p, e => ⟨id, .inl⟩
  | a :: es, p, e => by
    rw [List.foldl_cons]
    obtain ⟨i1, i2⟩ := eps_up hl k es (takeStep b l k p a) e
    cases h : firstFree (windows b l) p k (sendsOf b l a) with
    | none =>
      have e1 : takeStep b l k p a = p := by unfold takeStep; rw [h]; rfl
      rw [e1] at i1 i2 ⊢
      exact ⟨i1, fun z => (i2 z).imp id (List.mem_cons_of_mem _)⟩
    | some x =>
      have e1 : takeStep b l k p a = p ++ [x] := by unfold takeStep; rw [h]; rfl
      have e2 : planEps l (p ++ [x]) = planEps l p ++ [a] := by unfold planEps; rw [List.map_append, List.map_cons, List.map_nil, first_ep hl h]
      rw [e1] at i1 i2 ⊢
      rw [e2] at i1 i2
      refine ⟨fun z => i1 (List.mem_append_left _ z), fun z => ?_⟩
      rcases i2 z with y | y
      · rcases List.mem_append.mp y with y | y
        · exact .inl y
        · exact .inr (by rw [List.mem_singleton.mp y]; exact List.mem_cons_self)
      · exact .inr (List.mem_cons_of_mem _ y)
theorem missed_eps0 {b : Bk} {l : Lst} (hl : LOk l) (k : Nat) : ∀ (es : List Ep) (p : Plan), es.Nodup → (∀ e ∈ es, e ∉ planEps l p) → (missed b l k es p).map (·.1) = es.filter fun e => !decide (e ∈ planEps l (es.foldl (takeStep b l k) p))
  | [], p, _, _ => rfl
  | a :: es, p, nd, hn => by
    rw [List.nodup_cons] at nd
    rw [List.foldl_cons, missed]
    cases h : firstFree (windows b l) p k (sendsOf b l a) with
    | none =>
      have e1 : takeStep b l k p a = p := by unfold takeStep; rw [h]; rfl
      dsimp only
      rw [e1, List.map_cons, missed_eps0 hl k es p nd.2 fun e he => hn e (List.mem_cons_of_mem _ he)]
      have ha : a ∉ planEps l (es.foldl (takeStep b l k) p) := fun z => by
        rcases (eps_up hl k es p a).2 z with y | y
        · exact hn a List.mem_cons_self y
        · exact nd.1 y
      rw [List.filter_cons_of_pos (by rw [decide_eq_false ha]; rfl)]
    | some x =>
      have e1 : takeStep b l k p a = p ++ [x] := by unfold takeStep; rw [h]; rfl
      have e2 : planEps l (p ++ [x]) = planEps l p ++ [a] := by unfold planEps; rw [List.map_append, List.map_cons, List.map_nil, first_ep hl h]
      dsimp only
      rw [e1, missed_eps0 hl k es (p ++ [x]) nd.2 fun e he z => by
        rw [e2] at z
        rcases List.mem_append.mp z with y | y
        · exact hn e (List.mem_cons_of_mem _ he) y
        · rw [List.mem_singleton.mp y] at he; exact nd.1 he]
      have ha : a ∈ planEps l (es.foldl (takeStep b l k) (p ++ [x])) := (eps_up hl k es (p ++ [x]) a).1 (by rw [e2]; exact List.mem_append_right _ (by simp))
      rw [List.filter_cons_of_neg (by rw [decide_eq_true ha]; decide)]
theorem own_eps {b : Bk} {l : Lst} (hl : LOk l) (k : Nat) (e : Ep) : e ∈ recorded b l k ↔ e ∈ planEps l (taken b l k) := by
  unfold recorded planEps
  have h := own_names b l k
  have e1 : ∀ p : Plan, (p.map fun x => epAt l x.1) = (p.map (·.1)).map (epAt l) := fun p => by rw [List.map_map]; rfl
  rw [e1, e1, h, List.mem_map, List.mem_map]
  constructor
  · rintro ⟨n, hn, rfl⟩; exact ⟨n, (sortN_perm _).mem_iff.mp hn, rfl⟩
  · rintro ⟨n, hn, rfl⟩; exact ⟨n, (sortN_perm _).mem_iff.mpr hn, rfl⟩
theorem missed_lost {b : Bk} {l : Lst} (hl : LOk l) (k : Nat) : (missed b l k (wishes b l) []).map (·.1) = lost b l k := by
  rw [missed_eps0 hl k _ _ (wishes_nd b l) fun e _ z => by cases z]
  unfold lost
  congr 1
  funext e
  congr 1
  exact decide_eq_decide.mpr (own_eps hl k e).symm
end SP
namespace SP
open PySem PySem.Spec PyProof.Rows L2 DD
theorem own_iff {b : Bk} {l : Lst} (hl : LOk l) {k : Nat} {x : Str × Int} : x ∈ ownPlan b l k ↔ x ∈ taken b l k := by
  refine ⟨own_mem hl, fun h => ?_⟩
  unfold ownPlan asc
  refine List.mem_map.mpr ⟨x.1, (sortN_perm _).mem_iff.mpr (List.mem_map.mpr ⟨x, h, rfl⟩), ?_⟩
  rw [look_mem (taken_inv hl k).nd h]
  rfl
end SP
namespace SP
open PySem PySem.Spec PyProof.Rows L2 DD
def sureB (b : Bk) (l : Lst) (n : Str) : Bool := match wiOf b l n with
  | some w => decide (w.s.late ≤ w.r.after)
  | none => false
theorem sortN_pw (ns : List Str) : (sortN ns).Pairwise fun a b => strLe a b = true := List.pairwise_mergeSort strLe_trans strLe_total ns
theorem sortN_idem (ns : List Str) : sortN (sortN ns) = sortN ns := (sort_unique strLe_trans strLe_total strLe_anti (List.Perm.refl _) (sortN_pw ns)).symm
theorem surely_filter {b : Bk} {l : Lst} (hb : BOk b) (hl : LOk l) (k : Nat) : surely b l (ownPlan b l k) = (sortN ((taken b l k).map (·.1))).filter (sureB b l) := by
  unfold surely wholeOf
  rw [own_names, sortN_idem]
  refine List.filter_congr fun n hn => ?_
  obtain ⟨x, hx, rfl⟩ := List.mem_map.mp ((sortN_perm _).mem_iff.mp hn)
  have hxo := (own_iff hl (k := k)).mpr hx
  obtain ⟨w, hw, e1, e2⟩ := own_wish hl hxo
  have hwi := wiOf_is hl hw
  rw [e1] at hwi
  have e3 : look (lates l (ownPlan b l k)) x.1 = some w.s.late := by
    have h1 : (x.1, w.s.late) ∈ lates l (ownPlan b l k) := List.mem_map.mpr ⟨x, hxo, by rw [e2]; rfl⟩
    have h2 : ((lates l (ownPlan b l k)).map (·.1)).Nodup := by
      have e : (lates l (ownPlan b l k)).map (·.1) = (ownPlan b l k).map (·.1) := by unfold lates; rw [List.map_map]; rfl
      rw [e]
      exact own_nd hl k
    exact look_mem (x := (x.1, w.s.late)) h2 h1
  unfold sureB
  rw [hwi, e3]
  exact inWin_is hb hl hw (hl.ok _ (wished_mem.mp hw).1).2.l0
end SP
namespace SP
open PySem PySem.Spec PyProof.Rows L2 DD
end SP
namespace SP
open PySem PySem.Spec PyProof.Rows L2 DD
def sevenN : List Str := ["ant", "bee", "cat", "dog", "elk", "fox", "gnu"]
def SmallS (x : Str × Snd) : Prop := x.1 ∈ sevenN ∧ x.2.show_ ≠ "zoo"
theorem seven_word : ∀ z ∈ sevenN, isWord z = true := by decide +kernel
theorem seven_sorted : sevenN.Pairwise fun a b => a.cps.toList < b.cps.toList := by decide +kernel
def threeW : List Str := ["news", "quiz", "show"]
theorem three_word : ∀ z ∈ threeW, isWord z = true := by decide +kernel
def twoW : List Str := ["news", "quiz"]
theorem two_word : ∀ z ∈ twoW, isWord z = true := by decide +kernel
def chanW : List Str := ["one", "two"]
theorem chan_word : ∀ z ∈ chanW, isWord z = true := by decide +kernel
theorem word_at {ws : List Str} (hw : ∀ z ∈ ws, isWord z = true) {n : Int} (h0 : 0 ≤ n) (h1 : n < ws.length) : ∃ z, isWord z = true ∧ atI ((ws.map Dt.str).map Sv.dat) n = some (.dat (.str z)) := by
  obtain ⟨x, hx, hx2⟩ := atI_of (xs := (ws.map Dt.str).map Sv.dat) h0 (by simpa using h1)
  rw [List.getElem?_map, List.getElem?_map] at hx
  cases hz : ws[n.toNat]? with
  | none => rw [hz] at hx; cases hx
  | some z =>
    rw [hz] at hx
    cases hx
    exact ⟨z, hw z (List.mem_of_getElem? hz), hx2⟩
theorem word_at2 {ws : List Str} (hw : ∀ z ∈ ws, isWord z = true) {n : Int} (h0 : 0 ≤ n) (h1 : n < ws.length) : ∃ z, isWord z = true ∧ z ∈ ws ∧ atI ((ws.map Dt.str).map Sv.dat) n = some (.dat (.str z)) := by
  obtain ⟨x, hx, hx2⟩ := atI_of (xs := (ws.map Dt.str).map Sv.dat) h0 (by simpa using h1)
  rw [List.getElem?_map, List.getElem?_map] at hx
  cases hz : ws[n.toNat]? with
  | none => rw [hz] at hx; cases hx
  | some z =>
    rw [hz] at hx
    cases hx
    exact ⟨z, hw z (List.mem_of_getElem? hz), List.mem_of_getElem? hz, hx2⟩
theorem num_at (ws : List Int) {n : Int} (h0 : 0 ≤ n) (h1 : n < ws.length) : ∃ z, z ∈ ws ∧ atI ((ws.map Dt.int).map Sv.dat) n = some (.dat (.int z)) := by
  obtain ⟨x, hx, hx2⟩ := atI_of (xs := (ws.map Dt.int).map Sv.dat) h0 (by simpa using h1)
  rw [List.getElem?_map, List.getElem?_map] at hx
  cases hz : ws[n.toNat]? with
  | none => rw [hz] at hx; cases hx
  | some z =>
    rw [hz] at hx
    cases hx
    exact ⟨z, List.mem_of_getElem? hz, hx2⟩
theorem cut_take {α : Type} (xs : List α) {n : Int} (h : 0 ≤ n) : DD.cutD xs none (some n) = xs.take n.toNat := by
  obtain ⟨k, rfl⟩ : ∃ k : Nat, n = (k : Int) := ⟨n.toNat, by omega⟩
  unfold DD.cutD
  rw [HT.sIx_none, HT.sIx_nat, List.drop_zero, Nat.sub_zero, Int.toNat_natCast, Nat.min_def]
  split
  · rfl
  · rw [List.take_of_length_le (Nat.le_refl _), List.take_of_length_le (by omega)]
/-- a comprehension that changes the store -/
def LcR (R : Nat → List Dt → Store → Prop) : Nat → List Sv → Store → Prop := fun i acc st' => ∃ ds, acc = ds.map Sv.dat ∧ R i ds st'
theorem lc_state {α : Type} {g : DG} {tt : DT} {te : DE} {vs : List Nat} {xs : List Sv} {Δ : List Sv} {st : Store} {ok : OK} (as : List α) (e : α → Dt) (R : Nat → List Dt → Store → Prop) (hx : xs = as.map fun a => .dat (e a)) (h0 : R 0 [] st)
    (hb : ∀ i a D ds st', as[i]? = some a → D ∉ keys st' → R i ds st' → g (.dat (e a)) (wipeD Δ vs) ((D, .lst (ds.map Sv.dat)) :: st') fun Δ2 st2 => tt Δ2 st2 (fun b st3 =>
      (b = true → te Δ2 st3 (fun y st4 => ∃ acc' st5, st4 = (D, Ob.lst acc') :: st5 ∧ acc'.length < sizeLine ∧ LcR R (i + 1) (acc' ++ [y]) st5) fun _ _ => False) ∧ (b = false → ∃ acc' st5, st3 = (D, Ob.lst acc') :: st5 ∧ LcR R (i + 1) acc' st5)) fun _ _ => False)
    (hk : ∀ ds st', R as.length ds st' → ok (.dat (.lst ds)) st') : lcD g tt te vs xs Δ st ok := by
  subst hx
  rw [lcD_eq]
  intro D hD
  refine ⟨LcR R, ⟨[], rfl, h0⟩, ?_, ?_⟩
  · rintro i d acc st' hd ⟨ds, rfl, hR⟩ hD'
    rw [List.getElem?_map] at hd
    cases ea : as[i]? with
    | none => rw [ea] at hd; cases hd
    | some a =>
      rw [ea] at hd
      cases hd
      exact hb i a D ds st' ea hD' hR
  · rintro acc st' ⟨ds, rfl, hR⟩
    rw [List.length_map] at hR
    exact ⟨ds, .map _, hk ds st' hR⟩
theorem lcr_yes {R : Nat → List Dt → Store → Prop} {i : Nat} {D : Addr} {ds : List Dt} {st : Store} {d : Dt} (hl : ds.length < sizeLine) (h : R (i + 1) (ds ++ [d]) st) :
    ∃ acc' st5, ((D, Ob.lst (ds.map Sv.dat)) :: st) = (D, .lst acc') :: st5 ∧ acc'.length < sizeLine ∧ LcR R (i + 1) (acc' ++ [.dat d]) st5 :=
  ⟨_, st, rfl, by rw [List.length_map]; exact hl, ds ++ [d], by rw [List.map_append]; rfl, h⟩
end SP
namespace SP
open PySem PySem.Spec PyProof.Rows L2 DD
theorem over_comm (a b : Win) : overlap a b = overlap b a := by
  unfold overlap
  rw [Bool.and_comm]
def txtP (n : Str) : PyData := .str n
theorem txt_of (n : Str) : PyOf (.str n) (txtP n) := .str n
theorem txts_of : ∀ ns : List Str, PyOfs (ns.map Dt.str) (ns.map txtP)
  | [] => .nil
  | n :: ns => .cons (txt_of n) (txts_of ns)
theorem txt_shaped (n : Str) (h : isWord n = true) : SeqAt.shaped (txtP n) = true := by
  have hs : PyData.strOk n = true := word_ok h
  have hc : (txtP n).canLay0 = true := by simp [txtP, PyData.canLay0, hs]
  have hd : (txtP n).depth ≤ 64 := by simp [txtP, PyData.depth]
  unfold SeqAt.shaped
  rw [hc, decide_eq_true hd]
  rfl
theorem txts_lay (ns : List Str) (h : ∀ n ∈ ns, isWord n = true) : PyData.canLayAll0 (ns.map txtP) = true := by
  induction ns with
  | nil => rfl
  | cons e es ih =>
    rw [List.map_cons]
    unfold PyData.canLayAll0
    rw [ih fun e h' => h e (List.mem_cons_of_mem _ h')]
    have hs : PyData.strOk e = true := word_ok (h e List.mem_cons_self)
    simp [txtP, PyData.canLay0, hs]
theorem txt_eqv (a b : Str) : PyData.eqv (txtP a) (txtP b) = decide (a = b) := by
  unfold txtP
  simp only [PyData.eqv]
  by_cases h : a = b <;> simp [h]
theorem txt_any (es : List Str) (e : Str) : ((es.map txtP).any fun z => PyData.eqv z (txtP e)) = decide (e ∈ es) := by
  induction es with
  | nil => rfl
  | cons a es ih =>
    rw [List.map_cons, List.any_cons, ih, txt_eqv]
    by_cases h : a = e
    · subst h; simp
    · have h' : ¬ e = a := fun z => h z.symm
      simp [h, h']
end SP
namespace SP
open PySem PySem.Spec PyProof.Rows L2 DD
def OddK (d : Dt) : Prop := Pln d ∧ isNum d 1 10 = false
def ctIsRecX : Ct := fun ss st ok ex => ctIsRec ss st ok ex ∨ ∃ d, ss = [.dat d] ∧ OddK d ∧ ok (.dat (.bl false)) st
def ctChkRecX (I : Addr) : Ct := fun ss st ok ex => ctChkRec ss st ok ex ∨ ∃ d, ss = [.dat d] ∧ OddK d ∧ ex ⟨I, []⟩ st
def ctOwnX (c : Cl) (I : Addr) : Ct := fun ss st ok ex => ctOwn c ss st ok ex ∨ ∃ (b : Bk) (l : Lst) (d : Dt), ss = [.dat (b.d c), .dat (lstD c l), .dat d] ∧ OddK d ∧ ex ⟨I, []⟩ st
def ctLostX (c : Cl) (I : Addr) : Ct := fun ss st ok ex => ctLost c ss st ok ex ∨ ∃ (b : Bk) (l : Lst) (d : Dt), ss = [.dat (b.d c), .dat (lstD c l), .dat d] ∧ OddK d ∧ ex ⟨I, []⟩ st
def ctWayX (c : Cl) (I U : Addr) : Ct := fun ss st ok ex => ctWay c ss st ok ex ∨ (∃ (b : Bk) (l : Lst) (d : Dt) (e : Ep), ss = [.dat (b.d c), .dat (lstD c l), .dat d, .dat (epD e)] ∧ OddK d ∧ ex ⟨I, []⟩ st) ∨
  ∃ (b : Bk) (l : Lst) (k : Nat) (e : Ep), ss = [.dat (b.d c), .dat (lstD c l), dI (k : Int), .dat (epD e)] ∧ BOk b ∧ LOk l ∧ 1 ≤ k ∧ k ≤ 10 ∧ isWord e.1 = true ∧ e ∉ lost b l k ∧ ex ⟨U, []⟩ st
end SP
namespace SP
open PySem PySem.Spec PyProof.Rows L2 DD
abbrev DlX := List (Str × Dt)
def badDel (l : Lst) (d : DlX) (n : Str) : Bool := match look d n with
  | some v => (match look l n with
    | some s => !isNum v 0 s.late
    | none => true)
  | none => false
structure DXOk (d : DlX) : Prop where
  nd : (d.map (·.1)).Nodup
  len : d.length ≤ 20
  pl : ∀ x ∈ d, Pln x.2
def firstBad (l : Lst) (d : DlX) : Option Str := (sortN (d.map (·.1))).find? (badDel l d)
def ctChkDelX (c : Cl) (U : Addr) : Ct := fun ss st ok ex => ctChkDel c ss st ok ex ∨ ∃ (l : Lst) (d : DlX) (n : Str), ss = [.dat (lstD c l), .dat (dicD id d)] ∧ DXOk d ∧ firstBad l d = some n ∧ ex ⟨U, [("name", .str n)]⟩ st
def ctWholeX (c : Cl) (U : Addr) : Ct := fun ss st ok ex => ctWhole c ss st ok ex ∨ ∃ (b : Bk) (l : Lst) (p : Sv) (d : DlX) (n : Str), ss = [.dat (b.d c), .dat (lstD c l), p, .dat (dicD id d)] ∧ DXOk d ∧ firstBad l d = some n ∧ ex ⟨U, [("name", .str n)]⟩ st
end SP
namespace SP
open PySem PySem.Spec PyProof.Rows L2 DD
def Bk.seen2 (b : Bk) (es : List Ep) : Bk := ⟨b.rules, b.seen ++ es⟩
def roundsF (l : Lst) (k : Nat) : Nat → Bk → List Plan
  | 0, _ => []
  | n + 1, b => if ownPlan b l k = [] then [] else ownPlan b l k :: roundsF l k n (b.seen2 (recorded b l k))
def roundsOf (b : Bk) (l : Lst) (k : Nat) : List Plan := roundsF l k 11 b
@[irreducible] def ctSeen2 (c : Cl) : Ct := fun ss st ok _ => ∃ (b : Bk) (es : List Ep), ss = [.dat (b.d c), .dat (.tup (es.map epD))] ∧ BOk b ∧ b.seen.length + es.length ≤ 63 ∧ ok (.dat ((b.seen2 es).d c)) st
theorem ctSeen2_eq (c : Cl) {ss : List Sv} {st : Store} {ok : OK} {ex : EK} : ctSeen2 c ss st ok ex = ∃ (b : Bk) (es : List Ep), ss = [.dat (b.d c), .dat (.tup (es.map epD))] ∧ BOk b ∧ b.seen.length + es.length ≤ 63 ∧ ok (.dat ((b.seen2 es).d c)) st := by unfold ctSeen2; rfl
def planD (p : Plan) : Dt := dicD .int p
def ctRounds (c : Cl) : Ct := ctBL c (fun k : Nat => [dI (k : Int)]) (fun b _ k => (1 ≤ k ∧ k ≤ 10) ∧ b.seen.length ≤ 53) fun b l k => .lst ((roundsOf b l k).map planD)
def ctRoundsX (c : Cl) (I : Addr) : Ct := fun ss st ok ex => ctRounds c ss st ok ex ∨ ∃ (b : Bk) (l : Lst) (d : Dt), ss = [.dat (b.d c), .dat (lstD c l), .dat d] ∧ OddK d ∧ ex ⟨I, []⟩ st
structure Like (b b' : Bk) : Prop where
  r : b.rules = b'.rules
  s : ∀ e, e ∈ b.seen ↔ e ∈ b'.seen
theorem Like.rule {b b' : Bk} (h : Like b b') (x : Snd) : ruleFor b x = ruleFor b' x := by
  unfold ruleFor ruleOf
  rw [h.r]
  by_cases z : (x.show_, x.episode) ∈ b.seen
  · rw [if_pos z, if_pos ((h.s _).mp z)]
  · rw [if_neg z, if_neg (fun q => z ((h.s _).mpr q))]
theorem Like.wished {b b' : Bk} (h : Like b b') (l : Lst) : SP.wished b l = SP.wished b' l := by
  unfold SP.wished
  congr 1
  funext x
  rw [h.rule]
theorem wishes_cg {b b' : Bk} {l : Lst} (h : wished b l = wished b' l) : wishes b l = wishes b' l := by
  unfold wishes sortedRows
  rw [h]
theorem sends_cg {b b' : Bk} {l : Lst} (h : wished b l = wished b' l) (e : Ep) : sendsOf b l e = sendsOf b' l e := by
  unfold sendsOf bnOf
  rw [h]
theorem taken_cg {b b' : Bk} {l : Lst} (h : wished b l = wished b' l) (k : Nat) : taken b l k = taken b' l k := by
  unfold taken
  rw [wishes_cg h]
  congr 1
  funext p e
  unfold takeStep windows
  rw [h, sends_cg h]
theorem own_cg {b b' : Bk} {l : Lst} (h : wished b l = wished b' l) (k : Nat) : ownPlan b l k = ownPlan b' l k := by
  unfold ownPlan
  rw [taken_cg h]
theorem Like.seen2 {b b' : Bk} (h : Like b b') {es es' : List Ep} (he : ∀ e, e ∈ es ↔ e ∈ es') : Like (b.seen2 es) (b'.seen2 es') := ⟨h.r, fun e => by
  show e ∈ b.seen ++ es ↔ e ∈ b'.seen ++ es'
  rw [List.mem_append, List.mem_append, h.s, he]⟩
theorem Like.rfl' (b : Bk) : Like b b := ⟨rfl, fun _ => Iff.rfl⟩
theorem rounds_cg (l : Lst) (k : Nat) : ∀ (n : Nat) (b b' : Bk), Like b b' → roundsF l k n b = roundsF l k n b'
  | 0, _, _, _ => rfl
  | n + 1, b, b', h => by
    have e := own_cg (h.wished l) k
    unfold roundsF
    have er : recorded b l k = recorded b' l k := by unfold recorded; rw [e]
    rw [e, er, rounds_cg l k n _ _ (h.seen2 fun _ => Iff.rfl)]
theorem wished_seen2 (b : Bk) (l : Lst) (es : List Ep) : wished (b.seen2 es) l = (wished b l).filter fun x => !decide (x.s.ep ∈ es) := by
  unfold wished
  rw [List.filter_filterMap]
  congr 1
  funext x
  have e : ruleFor (b.seen2 es) x.2 = if x.2.ep ∈ es then none else ruleFor b x.2 := by
    unfold ruleFor ruleOf Bk.seen2
    dsimp only
    show (if x.2.ep ∈ b.seen ++ es then none else _) = if x.2.ep ∈ es then none else if x.2.ep ∈ b.seen then none else _
    by_cases z : x.2.ep ∈ es
    · rw [if_pos z, if_pos (List.mem_append_right _ z)]
    · rw [if_neg z]
      by_cases z2 : x.2.ep ∈ b.seen
      · rw [if_pos z2, if_pos (List.mem_append_left _ z2)]
      · rw [if_neg z2, if_neg (fun q => (List.mem_append.mp q).elim z2 z)]
  rw [e]
  by_cases z : x.2.ep ∈ es
  · rw [if_pos z]
    cases ruleFor b x.2 with
    | none => rfl
    | some r => simp [Option.filter, z]
  · rw [if_neg z]
    cases ruleFor b x.2 with
    | none => rfl
    | some r => simp [Option.filter, z]
theorem nd_len {α : Type} [DecidableEq α] : ∀ (l m : List α), l.Nodup → (∀ x ∈ l, x ∈ m) → l.length ≤ m.length
  | [], m, _, _ => Nat.zero_le _
  | a :: l, m, hn, hm => by
    obtain ⟨h1, h2⟩ := List.nodup_cons.mp hn
    have ha := hm a List.mem_cons_self
    have := nd_len l (m.erase a) h2 fun x hx => (List.mem_erase_of_ne (fun z : x = a => h1 (by rw [← z]; exact hx))).mpr (hm x (List.mem_cons_of_mem _ hx))
    rw [List.length_erase_of_mem ha] at this
    have := List.length_pos_of_mem ha
    rw [List.length_cons]
    omega
theorem filter_two {α : Type} (q : α → Bool) (l : List α) : (l.filter q).length + (l.filter fun x => !q x).length = l.length := by
  induction l with
  | nil => rfl
  | cons a l ih =>
    rw [List.filter_cons, List.filter_cons]
    cases q a <;> simp <;> omega
theorem epAt_is {b : Bk} {l : Lst} (hl : LOk l) {w : Wi} (hw : w ∈ wished b l) : epAt l w.n = w.s.ep := by
  unfold epAt
  rw [hl.get (wished_mem.mp hw).1]
  rfl
/-- each round makes less of what is wished -/
theorem round_less {b : Bk} {l : Lst} (hl : LOk l) (k : Nat) : (wished (b.seen2 (recorded b l k)) l).length + (ownPlan b l k).length ≤ (wished b l).length := by
  rw [wished_seen2]
  have h2 := filter_two (fun x : Wi => decide (x.s.ep ∈ recorded b l k)) (wished b l)
  have h3 : (ownPlan b l k).length ≤ ((wished b l).filter fun x => decide (x.s.ep ∈ recorded b l k)).length := by
    have := nd_len ((ownPlan b l k).map (·.1)) (((wished b l).filter fun x => decide (x.s.ep ∈ recorded b l k)).map (·.n)) (own_ok hl k).nd fun n hn => by
      obtain ⟨x, hx, rfl⟩ := List.mem_map.mp hn
      obtain ⟨w, hw, e1, _⟩ := own_wish hl hx
      refine List.mem_map.mpr ⟨w, List.mem_filter.mpr ⟨hw, decide_eq_true ?_⟩, e1⟩
      rw [← epAt_is hl hw, e1]
      exact List.mem_map.mpr ⟨x, hx, rfl⟩
    rwa [List.length_map, List.length_map] at this
  omega
theorem seen2_ok {b : Bk} {es : List Ep} (hb : BOk b) (hs : b.seen.length + es.length ≤ 63) (hw : ∀ e ∈ es, isWord e.1 = true) : BOk (b.seen2 es) := by
  refine ⟨hb.len, hb.ok, ?_, fun e he => ?_⟩
  · show (b.seen ++ es).length ≤ 63
    rw [List.length_append]
    exact hs
  · rcases List.mem_append.mp (show e ∈ b.seen ++ es from he) with h | h
    · exact hb.sok e h
    · exact hw e h
theorem eps_nd {b : Bk} {l : Lst} (hl : LOk l) (k : Nat) : ∀ (es : List Ep) (p : Plan), es.Nodup → (planEps l p).Nodup → (∀ e ∈ es, e ∉ planEps l p) → (planEps l (es.foldl (takeStep b l k) p)).Nodup
  | [], p, _, h, _ => h
  | e :: es, p, hn, h, hd => by
    obtain ⟨n1, n2⟩ := List.nodup_cons.mp hn
    rw [List.foldl_cons]
    unfold takeStep addTo
    cases hf : firstFree (windows b l) p k (sendsOf b l e) with
    | none => exact eps_nd hl k es p n2 h fun e' he' => hd e' (List.mem_cons_of_mem _ he')
    | some x =>
      have hx : epAt l x.1 = e := first_ep (b := b) hl hf
      have e1 : planEps l (p ++ [x]) = planEps l p ++ [e] := by unfold planEps; rw [List.map_append, ← hx]; rfl
      refine eps_nd hl k es (p ++ [x]) n2 ?_ fun e' he' => ?_
      · rw [e1]
        exact List.nodup_append.mpr ⟨h, by simp, fun a ha c hc z => by rw [List.mem_singleton.mp hc] at z; subst z; exact hd a List.mem_cons_self ha⟩
      · rw [e1]
        intro z
        rcases List.mem_append.mp z with z | z
        · exact hd e' (List.mem_cons_of_mem _ he') z
        · rw [List.mem_singleton.mp z] at he'
          exact n1 he'
def tkEps (b : Bk) (l : Lst) (k : Nat) : List Ep := planEps l (taken b l k)
theorem tkEps_nd {b : Bk} {l : Lst} (hl : LOk l) (k : Nat) : (tkEps b l k).Nodup := eps_nd hl k _ [] (wishes_nd b l) (by simp [planEps]) (by simp [planEps])
theorem own_perm {b : Bk} {l : Lst} (hl : LOk l) (k : Nat) : (ownPlan b l k).length = (taken b l k).length := by
  have h := own_names b l k
  have := congrArg List.length h
  rw [List.length_map, (sortN_perm _).length_eq, List.length_map] at this
  exact this
/-- between two rounds -/
structure RS (b : Bk) (l : Lst) (k : Nat) (f : List Plan) (c : Bk) (n : Nat) : Prop where
  ok : BOk c
  eq : f ++ roundsF l k n c = roundsOf b l k
  few : (wished c l).length < n
  seen : c.seen.length + (wished c l).length ≤ 63
  len : f.length + n = 11
theorem RS.start {b : Bk} {l : Lst} (k : Nat) (hb : BOk b) (hl : LOk l) (hs : b.seen.length ≤ 53) : RS b l k [] b 11 := ⟨hb, rfl, by have := wished_len (b := b) hl; omega, by have := wished_len (b := b) hl; omega, rfl⟩
theorem RS.step {b : Bk} {l : Lst} {k : Nat} {f : List Plan} {c : Bk} {n : Nat} (hl : LOk l) (R : RS b l k f c n) (h : ownPlan c l k ≠ []) {es : List Ep} (he : ∀ e, e ∈ es ↔ e ∈ recorded c l k) (hlen : es.length = (ownPlan c l k).length) :
    ∃ m, n = m + 1 ∧ RS b l k (f ++ [ownPlan c l k]) (c.seen2 es) m ∧ (wished (c.seen2 es) l).length < (wished c l).length := by
  have hn : 0 < n := by have := R.few; omega
  obtain ⟨m, rfl⟩ : ∃ m, n = m + 1 := ⟨n - 1, by omega⟩
  have hlk : Like (c.seen2 es) (c.seen2 (recorded c l k)) := (Like.rfl' c).seen2 he
  have hless := round_less (b := c) hl k
  have hpos : 0 < (ownPlan c l k).length := List.length_pos_iff.mpr h
  rw [← hlk.wished l] at hless
  have hsl : (c.seen2 es).seen.length = c.seen.length + es.length := List.length_append
  have R1 := R.few
  have R2 := R.seen
  have R3 := R.len
  refine ⟨m, rfl, ⟨seen2_ok R.ok (by omega) fun e h => ?_, ?_, by omega, by omega, by simp; omega⟩, by omega⟩
  · exact rec_word (b := c) hl ((he e).mp h)
  · have := R.eq
    unfold roundsF at this
    rw [if_neg h] at this
    rw [List.append_assoc, rounds_cg l k m _ _ hlk]
    exact this
theorem RS.done {b : Bk} {l : Lst} {k : Nat} {f : List Plan} {c : Bk} {n : Nat} (R : RS b l k f c n) (h : ownPlan c l k = []) : roundsOf b l k = f := by
  have hn : 0 < n := by have := R.few; omega
  obtain ⟨m, rfl⟩ : ∃ m, n = m + 1 := ⟨n - 1, by omega⟩
  have := R.eq
  unfold roundsF at this
  rw [if_pos h, List.append_nil] at this
  exact this.symm
/-- and where each episode was -/
structure RW (b : Bk) (l : Lst) (f : List Plan) (c : Bk) (W : List (Ep × Nat)) : Prop where
  sub : ∀ w ∈ wished c l, w ∈ wished b l
  nd : (W.map (·.1)).Nodup
  w1 : ∀ y ∈ W, ∃ p, f[y.2]? = some p ∧ ∃ x ∈ p, epAt l x.1 = y.1
  w2 : ∀ (i : Nat) (p : Plan), f[i]? = some p → ∀ x ∈ p, (epAt l x.1, i) ∈ W
  w3 : ∀ y ∈ W, y.1 ∈ c.seen ∧ y.1 ∈ wishes b l
  cov : ∀ e ∈ wishes b l, e ∈ wishes c l ∨ e ∈ W.map (·.1)
  nm : ∀ p ∈ f, ∀ x ∈ p, ∃ w ∈ wished b l, w.n = x.1
  ln : ∀ p ∈ f, p.length ≤ 10
theorem RW.start (b : Bk) (l : Lst) : RW b l [] b [] := ⟨fun w h => h, by simp, fun y h => (by cases h), fun i p h => (by simp at h), fun y h => (by cases h), fun e h => .inl h, fun p h => (by cases h), fun p h => (by cases h)⟩
theorem not_seen {c : Bk} {l : Lst} {e : Ep} (h : e ∈ wishes c l) : e ∉ c.seen := by
  obtain ⟨x, hx, rfl⟩ := wishes_mem.mp h
  have h2 := (wished_mem.mp hx).2
  intro z
  unfold ruleFor ruleOf at h2
  rw [if_pos (show (x.s.show_, x.s.episode) ∈ c.seen from z)] at h2
  cases h2
theorem tk_wish {c : Bk} {l : Lst} (hl : LOk l) {k : Nat} {e : Ep} (h : e ∈ tkEps c l k) : e ∈ wishes c l := by
  obtain ⟨x, hx, rfl⟩ := List.mem_map.mp h
  obtain ⟨⟨w, hw, e1, e2⟩, _⟩ := (taken_inv (b := c) hl k).mem x hx
  rw [← e1, epAt_is hl hw]
  exact e2
theorem RW.step {b : Bk} {l : Lst} {k : Nat} {f : List Plan} {c : Bk} {W : List (Ep × Nat)} (hl : LOk l) (R : RW b l f c W) : RW b l (f ++ [ownPlan c l k]) (c.seen2 (tkEps c l k)) (W ++ (tkEps c l k).map fun e => (e, f.length)) := by
  have hw := wished_seen2 c l (tkEps c l k)
  have hfl : ∀ y ∈ W, y.2 < f.length := fun y hy => by
    obtain ⟨p, hp, _⟩ := R.w1 y hy
    exact (List.getElem?_eq_some_iff.mp hp).1
  have hup : ∀ {e : Ep}, e ∈ wishes c l → e ∈ wishes b l := fun {e} h => by
    obtain ⟨x, hx, e1⟩ := wishes_mem.mp h
    exact wishes_mem.mpr ⟨x, R.sub x hx, e1⟩
  refine ⟨fun w h => ?_, ?_, fun y hy => ?_, fun i p hp x hx => ?_, fun y hy => ?_, fun e he => ?_, fun p hp x hx => ?_, fun p hp => ?_⟩
  · rw [hw] at h
    exact R.sub w (List.mem_filter.mp h).1
  · rw [List.map_append, List.map_map]
    refine List.nodup_append.mpr ⟨R.nd, ?_, fun a ha e he z => ?_⟩
    · rw [show ((fun x : Ep × Nat => x.1) ∘ fun e : Ep => (e, f.length)) = id from rfl, List.map_id]
      exact tkEps_nd hl k
    · rw [show ((fun x : Ep × Nat => x.1) ∘ fun e : Ep => (e, f.length)) = id from rfl, List.map_id] at he
      subst z
      obtain ⟨y, hy, rfl⟩ := List.mem_map.mp ha
      exact not_seen (tk_wish hl he) (R.w3 y hy).1
  · rcases List.mem_append.mp hy with hy | hy
    · obtain ⟨p, hp, x, hx⟩ := R.w1 y hy
      exact ⟨p, by rw [List.getElem?_append_left (hfl y hy)]; exact hp, x, hx⟩
    · obtain ⟨e, he, rfl⟩ := List.mem_map.mp hy
      obtain ⟨x, hx, e1⟩ := List.mem_map.mp he
      exact ⟨_, by rw [List.getElem?_append_right (Nat.le_refl _)]; simp, x, (own_iff hl).mpr hx, e1⟩
  · by_cases h : i < f.length
    · rw [List.getElem?_append_left h] at hp
      exact List.mem_append_left _ (R.w2 i p hp x hx)
    · rw [List.getElem?_append_right (by omega)] at hp
      have hi : i - f.length = 0 := by
        cases z : i - f.length with
        | zero => rfl
        | succ m => rw [z] at hp; simp at hp
      rw [hi] at hp
      have hp : ownPlan c l k = p := by simpa using hp
      subst hp
      have : i = f.length := by omega
      subst this
      refine List.mem_append_right _ (List.mem_map.mpr ⟨epAt l x.1, List.mem_map.mpr ⟨x, (own_iff hl).mp hx, rfl⟩, rfl⟩)
  · rcases List.mem_append.mp hy with hy | hy
    · exact ⟨List.mem_append_left _ (R.w3 y hy).1, (R.w3 y hy).2⟩
    · obtain ⟨e, he, rfl⟩ := List.mem_map.mp hy
      exact ⟨List.mem_append_right _ he, hup (tk_wish hl he)⟩
  · rcases R.cov e he with h | h
    · by_cases z : e ∈ tkEps c l k
      · refine .inr (List.mem_map.mpr ⟨(e, f.length), List.mem_append_right _ (List.mem_map.mpr ⟨e, z, rfl⟩), rfl⟩)
      · obtain ⟨x, hx, e1⟩ := wishes_mem.mp h
        refine .inl (wishes_mem.mpr ⟨x, ?_, e1⟩)
        rw [hw]
        exact List.mem_filter.mpr ⟨hx, by rw [e1]; simpa using z⟩
    · rw [List.map_append]
      exact .inr (List.mem_append_left _ h)
  · rcases List.mem_append.mp hp with hp | hp
    · exact R.nm p hp x hx
    · rw [List.mem_singleton.mp hp] at hx
      obtain ⟨w, hw', e1, _⟩ := own_wish hl hx
      exact ⟨w, R.sub w hw', e1⟩
  · rcases List.mem_append.mp hp with hp | hp
    · exact R.ln p hp
    · rw [List.mem_singleton.mp hp]
      exact own_len hl k
end SP
namespace DD
open PySem PySem.Spec PyProof.Rows L2
end DD
namespace DD
open PySem PySem.Spec PyProof.Rows L2
structure Cap (N : List Str) (sc : Scope) (cl : List (Str × Addr)) (σ : L2.St) (H : Hp) (h : Heap) : Prop where
  len : σ.length = N.length
  inj : ∀ x y c, cl.lookup x = some c → cl.lookup y = some c → x = y
  has : ∀ y, sc.names.lookup y = some .cell → ∃ c, cl.lookup y = some c
  cell : ∀ y c, cl.lookup y = some c → H c = none ∧ ∃ v, h.IsCell c v
  val : ∀ (i : Nat) (y : Str) (v : V) (c : Addr), N[i]? = some y → σ[i]? = some (some v) → sc.names.lookup y = some .cell → cl.lookup y = some c → ∃ u, RelV v u ∧ h.IsCell c (some u)
section
variable {N : List Str} {sc : Scope} {cl : List (Str × Addr)} {σ σ' : L2.St} {H H' : Hp} {h h' : Heap}
theorem Cap.un {fs ex : List Addr} (C : Cap N sc cl σ H h) (u : Un fs ex H H' h h') (hx : ∀ y c, cl.lookup y = some c → c ∉ ex) : Cap N sc cl σ H' h' := by
  have go : ∀ y c w, cl.lookup y = some c → h.IsCell c w → h'.IsCell c w := fun y c w e ⟨o, ho, hd⟩ => by
    obtain ⟨sl, q⟩ := u.any ho (C.cell y c e).1 (hx y c e)
    exact ⟨_, q, hd⟩
  refine ⟨C.len, C.inj, C.has, fun y c e => ?_, fun i y v c h1 h2 h3 h4 => ?_⟩
  · obtain ⟨n, w, z⟩ := C.cell y c e
    refine ⟨?_, w, go y c w e z⟩
    obtain ⟨o, ho, _⟩ := z
    exact u.free c o ho n (hx y c e)
  · obtain ⟨w, r, z⟩ := C.val i y v c h1 h2 h3 h4
    exact ⟨w, r, go y c _ h4 z⟩
theorem Cap.weak (C : Cap N sc cl σ H h) (hl : σ'.length = σ.length) (w : ∀ (i : Nat) (y : Str) (v : V), N[i]? = some y → sc.names.lookup y = some .cell → σ'[i]? = some (some v) → σ[i]? = some (some v)) : Cap N sc cl σ' H h :=
  ⟨hl.trans C.len, C.inj, C.has, C.cell, fun i y v c h1 h2 h3 h4 => C.val i y v c h1 (w i y v h1 h3 h2) h3 h4⟩
end
end DD
namespace DD
open PySem PySem.Spec PyProof.Rows L2
end DD
namespace DD
open PySem PySem.Spec PyProof.Rows L2
end DD
namespace DD
open PySem PySem.Spec PyProof.Rows L2
end DD
namespace DD
open PySem PySem.Spec PyProof.Rows L2
/-- the law's call: the script alone stands in the heap -/
theorem law_in {K : PySem.W.Frag} {ct : Ct} {H : Hp} {a : Addr} {ns : List Int} (hS : SqL K H a (ns.map V.int)) (c : ct [.dat (.fls (ns.map Dt.int))] [] (fun s _ => s = .dat (.bl true)) (fun _ _ => False)) :
    lowF K ct [.ref a] H (fun v _ => v = .bl true) fun _ _ _ => False := by
  have hd : ∀ ns : List Int, IsDs K H (ns.map Dt.int) (ns.map V.int) := fun ns => by
    induction ns with
    | nil => exact .nil
    | cons n ns ih => exact .cons (.int n) ih
  refine ⟨_, [], H, _, _, ⟨fun a o h => .inl h, fun p ob h => (nomatch h), List.nodup_nil⟩, .cons (.dat (.fls hS (hd ns))) .nil, c, ?_, ?_⟩
  · intro s st' v I' H' h w' s' i'
    subst h
    cases i' with
    | dat z => cases z; rfl
  · intro x st' cls d I' H' h
    exact h.elim
theorem of_K {K : PySem.W.Frag} {h : Heap} (T : PySem.W.Frag → Prop) (X : K.In h) (t : T K) : T K := t
theorem cx_none {P : Program} {w : World} {H : Hp} {s : Shared} {e : Value} {s' : Shared} (h : L2.CX P w [] H s (fun _ _ _ => False) e s') : False := by
  obtain ⟨_, _, _, _, _, _, _, _, _, _, _, _, z⟩ := h
  exact z
end DD
namespace DD
open PySem PySem.Spec PyProof.Rows L2
section
variable {K : PySem.W.Frag} {C D : Addr} {f : Str}
theorem na_of (h : PySem.W.findIn K (.ref C) f = some none) : NoAttr K C f := h
theorem kit_same : PySem.W.kitOne K (.ref C) (.ref C) = some true := by
  unfold PySem.W.kitOne
  rw [if_pos (by exact beq_self_eq_true _)]
theorem kit_ne {t c : Value} (h : (t == c) = false) : PySem.W.kitOne K t c = PySem.W.kitCls K t c := by
  unfold PySem.W.kitOne
  rw [h]
  rfl
theorem kit_cr {t : Value} {x : ClassData} {b : Bool} (ne : (t == Value.ref C) = false) (c : PySem.W.clsIn K C = some x) (ty : PySem.W.typeIn K (.ref C) = some (.type "type")) (s : PySem.W.subIn K t (.ref C) = some b) : PySem.W.kitOne K t (.ref C) = some b := by
  rw [kit_ne ne]
  unfold PySem.W.kitCls
  dsimp only
  rw [c, ty, if_pos (by rfl), s]
theorem kit_ct {T : String} {b : Bool} (m : PySem.W.kitMeta T = true) (s : PySem.W.subIn K (.ref C) (.type T) = some b) : PySem.W.kitOne K (.ref C) (.type T) = some b := by
  rw [kit_ne (by rfl)]
  unfold PySem.W.kitCls
  dsimp only
  rw [if_pos m, s]
theorem nec_of {fa : Addr} {nm q : Str} {N : Addr} {bs : List Value} {hdct : Bool} {sn sub ab col dd k0 k1 k2 k3 k5} {newId : String} {o : Obj}
    (l : K.lookup C = some (excClassObj nm q C N bs [.type "object"] hdct sn sub ab col dd k0 k1 k2 k3 k5 newId)) (n : PySem.W.nsOkIn K N = true) (e : PySem.W.nsIn K N "__eq__" = some (some (.ref fa))) (ne : PySem.W.nsIn K N "__ne__" = some none) (lf : K.lookup fa = some o) (c : o.cls = .type "function") : NeC K C fa :=
  ⟨⟨_, _, _, _, _, _, _, _, _, _, _, _, _, _, _, _, l, n, e, ne⟩, ⟨_, lf, c⟩⟩
theorem fund_mk {x qual : Str} {params : Arguments} {body : List Stmt} {scope : Scope} {dvs : List V} {oc : Value} {od an : Option Addr} {kV doc pm cdv ct oc' : Value} {od' : Option Addr} {T : Addr} {n : Nat} {osl osl' : Array (Option Value)} {its : List Value} {fa : Addr}
    (l : K.lookup fa = some ⟨oc, od, .func (PySem.W.fnOf x qual params body scope (.ref T) kV doc pm an cdv ct), osl⟩) (c : PySem.W.codeIn K cdv qual = true) (lt : K.lookup T = some ⟨oc', od', .seq its.toArray n, osl'⟩) (k : PySem.W.keepIn K (.ref fa) = true) (ne : dvs ≠ []) (v : Vals dvs its) :
    FunD K x qual params body scope dvs [] fa (PySem.W.fnOf x qual params body scope (.ref T) kV doc pm an cdv ct) := ⟨⟨oc, od, _, kV, doc, pm, an, cdv, ct, osl, rfl, l, c, .inr ⟨ne, T, _, its, n, rfl, lt, rfl, v⟩, .inl rfl⟩, k⟩
theorem oex_of {nm q : Str} {N : Addr} {bs bm : List Value} {sn sub ab col dd k0 k1 k2 k3 k5} (l : K.lookup C = some (excClassObj nm q C N bs bm true sn sub ab col dd k0 k1 k2 k3 k5 "ValueError.__new__")) (r : PySem.HandSPX.refsVE bm = true)
    (sa : PySem.W.findIn K (.ref C) "__setattr__" = some (some (.builtin "object.__setattr__"))) (e : PySem.W.subIn K (.ref C) (.type "BaseException") = some true) (t : PySem.W.typeIn K (.ref C) = some (.type "type")) (k : PySem.W.keepIn K (.ref C) = true) : OexC K C :=
  ⟨⟨_, _, _, _, _, _, _, _, _, _, _, _, _, _, _, l, r⟩, sa, e, t, k⟩
end
end DD
namespace DD
open PySem PySem.Spec PyProof.Rows L2
end DD
namespace DD
open PySem PySem.Spec PyProof.Rows L2
namespace LP
def body : Stmt → List Stmt
  | .For (body := b) .. => b
  | .While (body := b) .. => b
  | .If (body := b) .. => b
  | _ => []
def val : Stmt → Expr
  | .Assign (value := e) .. => e
  | .Expr (value := e) .. => e
  | .Return (value := some e) .. => e
  | _ => .Constant .none 0 ⟨0, 0, 0, 0⟩
def bl : Expr → Expr
  | .BinOp (left := e) .. => e
  | e => e
def lam : Expr → LamK
  | .Lambda p b s _ => ⟨p, b, s⟩
  | e => ⟨⟨[], [], none, [], [], none, []⟩, e, ⟨.function, [], false, false, []⟩⟩
end LP
end DD
namespace DD
open PySem PySem.Spec PyProof.Rows L2
end DD
namespace DD
open PySem PySem.Spec PyProof.Rows L2
end DD
namespace DD
open PySem PySem.Spec PyProof.Rows L2
theorem paired_rev {α β : Type} {F : α → β → Prop} : ∀ {xs : List α} {ys : List β}, Paired F xs ys → Paired F xs.reverse ys.reverse
  | _, _, .nil => .nil
  | _, _, .cons a r => by
    rw [List.reverse_cons, List.reverse_cons]
    exact paired_app (paired_rev r) (.cons a .nil)
end DD
namespace DD
open PySem PySem.Spec PyProof.Rows L2
end DD
namespace DD
open PySem PySem.Spec PyProof.Rows L2
namespace LP
def cl : Expr → Expr
  | .Compare (left := e) .. => e
  | e => e
def un : Expr → Expr
  | .UnaryOp (operand := e) .. => e
  | e => e
end LP
end DD
namespace DD
open PySem PySem.Spec PyProof.Rows L2
theorem tru_dR {X : Cx} : TruR X (fun x H Q => ∃ (p : Addr) (kvs : List (Key × V)), x = .ref p ∧ Rd H p (.dK kvs) ∧ Q (!kvs.isEmpty) H) := by
  intro pins s σ H x v Q I rx h
  obtain ⟨p, kvs, rfl, hk, q⟩ := h
  obtain rfl : v = Value.ref p := rx
  obtain ⟨z, lo, vs, rk, hd⟩ : ObjOk X.prog X.w H s.heap p (.dK kvs) := hk.ok I.hok
  have hlen : kvs.length = vs.length := Paired.length rk
  have hs : sizeLine = 16777216 := sizeLine_eq
  have hl := line63
  exact wpAny_truthy_dict lo hd (by omega) ⟨H, I.tok _, by rw [isEmpty_kv rk]; exact q⟩
def dTruK (te : DE) : DT := fun Δ st ok ex => te Δ st (fun x st1 => withK x st1 fun kvs => ok (!kvs.isEmpty) st1) ex
theorem lowT_truK {K : PySem.W.Frag} {W : WX} {te : DE} : ∀ σ H Q, lowT K (dTruK te) W σ H Q → low K te W σ H (fun x H' => ∃ (p : Addr) (kvs : List (Key × V)), x = .ref p ∧ Rd H' p (.dK kvs) ∧ Q (!kvs.isEmpty) H') := by
  rintro σ H Q ⟨Δ, st, I, ok, ex, wd, sl, h, c, cx⟩
  refine low_go wd sl h (fun x st1 v I1 H1 h1 w1 s1 i1 => ?_) cx
  obtain ⟨a, us, kvs, rfl, hd, hp, h1⟩ := withK_rd w1 i1 h1
  exact ⟨a, us, rfl, hd, c _ _ _ _ (by rw [← emp_eq hp]; exact h1) w1 s1⟩
theorem ttruK {X : Cx} {W : WX} {e : Expr} {te : DE} (h : PEd X W e te) (he : ∀ whole, isTrue e X.env whole = (do let v ← whole; standAt e.pos; holding [v] (truthy v)) := by intro _; rfl) : PTd X W e (dTruK te) := PT.imp (pt_truthR h tru_dR he) lowT_truK
def enumS (ds : List Dt) : List Sv := ds.zipIdx.map fun x => .dat (.tup [.int (x.2 : Nat), x.1])
def dItE (ta : DA) : DI := fun Δ st ok ex => ta Δ st (fun xs st1 => match xs with
  | [.dat (.lst ds)] => ok (enumS ds) st1
  | _ => False) ex
theorem low_itE {K : PySem.W.Frag} {W : WX} {ta : DA} : ∀ σ H R, lowI K (dItE ta) W σ H R → iEnum K (lowA K ta W) σ H R := by
  rintro σ H R ⟨Δ, st, I, ok, ex, wd, sl, h, c, cx⟩
  refine lowA_go wd sl h (fun xs st1 vs I1 H1 h1 w1 s1 i1 => ?_) cx
  split at h1
  · rename_i ds
    obtain ⟨v, rfl, iv⟩ := one_of rfl i1
    cases iv with
    | dat hd =>
      cases hd with
      | @lst _ us a ha hb =>
        have hS : SqL K H1 a us := w1.sub.sl (.inl (.inl ha))
        have hl := paired_len (isDs_pair hb)
        refine ⟨a, us, rfl, hS, c _ _ _ _ _ h1 w1 s1 ⟨fun H => SqL K H a us, YPair (fun i => some (.int (i : Nat))) (fun i => us[i]?), ?_, fun st2 I2 H2 w2 s2 => w2.sub.sl (.inl (.inl (s2.ii _ _ ha))), fun i H2 x H3 st2 I2 hi w2 s2 y => ?_⟩⟩
        · rw [show (enumS ds).length = us.length from by rw [← hl]; simp [enumS]]
          exact walk_enum
        · obtain ⟨T, u1, u2, rfl, hT, rfl, e1, e2⟩ := y
          cases e1
          obtain ⟨d, hd1, hd2⟩ := paired_back (isDs_pair hb) e2
          obtain ⟨w3, s3⟩ := new_known (o := .tup [.int (i : Nat), u2]) w2 hT
          refine ⟨.dat (.tup [.int (i : Nat), d]), _, ?_, w3, s3, .dat (.tup upd_same (.cons (.int _) (.cons ((hd2.mono s2.ii).mono (Ex.new (w2.sub.none hT))) .nil)))⟩
          unfold enumS
          rw [List.getElem?_map, List.getElem?_zipIdx, hd1]
          simp
  · exact h1.elim
theorem iE {X : Cx} {W : WX} {e : Expr} {ta : DA} {p pos tpos : Pos} {elts : List Expr} {kk : Nat} (hm : X.mg "enumerate" = none) (ha : PAd X W [e] ta) (hg : Gl X "enumerate" := by rfl) (hs : starEach [e] X.env = [(false, eval e X.env)] := by rfl) :
    PId X W (.Tuple elts kk tpos) (.Call (.Name "enumerate" p) [e] [] pos) (dItE ta) := PI.imp (pi_enum hg hm ha hs) low_itE
end DD
namespace DD
open PySem PySem.Spec PyProof.Rows L2
theorem lowS_parC3 {K : PySem.W.Frag} {W : WX} {i j m : Nat} {t : DA} : ∀ D σ H, lowS K (dPar3 i j m t) W D σ H → tAsg (tTup (lowA K t W)) (gTup K 3 (gCons (gName i) (gCons (gName j) (gCons (gName m) gNil)))) D σ H := by
  rintro D σ H ⟨Δ, st, I, N, wd, sl, h, e⟩
  refine lowA_go wd sl h (fun xs st1 vs I1 H1 h1 w1 s1 i1 => ?_) (cx_of sl e)
  split at h1
  · cases i1 with
    | cons a i1 =>
      cases i1 with
      | cons b i1 =>
        cases i1 with
        | cons c i1 =>
          cases i1
          refine ⟨by rw [sizeLine_eq]; simp only [List.length_cons, List.length_nil]; decide, fun p hp => ?_⟩
          obtain ⟨w2, s2⟩ := new_known (o := .tup _) w1 hp
          exact ⟨p, _, rfl, .inl (.inl upd_same), rfl, _, _, rfl, _, _, rfl, _, _, rfl, rfl, e.nx _ _ _ _ _ h1 w2 (s1.trans s2) (((((sl.mono s1.ii).mono s2.ii).set (a.mono s2.ii)).set (b.mono s2.ii)).set (c.mono s2.ii))⟩
  · exact h1.elim
theorem sparC3 {X : Cx} {W : WX} {x y z : Str} {a b c : Expr} {t : DA} {px py pz pt pos pt2 : Pos} {kt k2 : Nat} (i j m : Nat) (hN : X.N.Nodup) (ha : PAd X W [a, b, c] t) (hc : X.calm = true := by rfl) (hi : X.N[i]? = some x := by rfl) (hj : X.N[j]? = some y := by rfl) (hm : X.N[m]? = some z := by rfl)
    (hx : Loc X.env.scope x := by first | exact Or.inl rfl | exact Or.inr rfl) (hy : Loc X.env.scope y := by first | exact Or.inl rfl | exact Or.inr rfl) (hz : Loc X.env.scope z := by first | exact Or.inl rfl | exact Or.inr rfl)
    (hfx : X.fn x = true ∨ X.env.scope.names.lookup x = some .local := by first | exact .inl rfl | exact .inr rfl | assumption) (hfy : X.fn y = true ∨ X.env.scope.names.lookup y = some .local := by first | exact .inl rfl | exact .inr rfl | assumption) (hfz : X.fn z = true ∨ X.env.scope.names.lookup z = some .local := by first | exact .inl rfl | exact .inr rfl | assumption)
    (hw : swappedStores [.Tuple [.Name x px, .Name y py, .Name z pz] kt pt] (.Tuple [a, b, c] k2 pt2) X.env = pure none := by rfl)
    (hs : swapsWithSole [.Tuple [.Name x px, .Name y py, .Name z pz] kt pt] (.Tuple [a, b, c] k2 pt2) pos.line X.env = pure false := by rfl) : PSd X W (.Assign [.Tuple [.Name x px, .Name y py, .Name z pz] kt pt] (.Tuple [a, b, c] k2 pt2) pos) (dPar3 i j m t) :=
  PS.imp (ps_asg (pe_tup ha) (pg_tup hc (pgs_cons (pg_name hN hi hx hfx) (pgs_cons (pg_name hN hj hy hfy) (pgs_cons (pg_name hN hm hz hfz) pgs_nil)))) hs hw) lowS_parC3
end DD
namespace DD
open PySem PySem.Spec PyProof.Rows L2
def lookI (l : List (Key × Int)) (k : Key) : Option Int := (l.find? fun x => decide (x.1 = k)).map (·.2)
def eqDI (ks ls : List (Key × Int)) : Bool := ks.length == ls.length && ks.all fun p => decide (lookI ls p.1 = some p.2)
def ofI (l : List (Key × Int)) : List (Key × V) := l.map fun p => (p.1, V.int p.2)
theorem val_ofI (l : List (Key × Int)) (k : Key) : valV (ofI l) k = (lookI l k).map V.int := by
  unfold lookI
  rw [show valV (ofI l) k = getD (ofI l) k from getD_V _ _]
  unfold ofI getD
  induction l with
  | nil => rfl
  | cons a l ih =>
    rw [List.map_cons, List.find?_cons, List.find?_cons]
    dsimp only
    cases decide (a.1 = k) with
    | true => rfl
    | false => exact ih
theorem hits_I {A : Around} {s : Shared} {ls : List (Key × Int)} {vb : List (Key × Value)} (rb : KV (ofI ls) vb) : ∀ {ks : List (Key × Int)} {va : List (Key × Value)}, KV (ofI ks) va → PySem.W.KeqHits A s vb va (ks.all fun p => decide (lookI ls p.1 = some p.2))
  | [], _, .nil => .nil
  | (k, i) :: ks, _, .cons (b := (k', v)) h t => by
    obtain ⟨h1, h2⟩ := h
    have h1 : k = k' := h1
    subst h1
    obtain ⟨u, rfl⟩ : ∃ u, v = Value.int i u := h2
    have rr : RelO ((lookI ls k).map V.int) (valueAt vb k) := by rw [← val_ofI]; exact rb.val k
    rw [List.all_cons]
    cases hl : lookI ls k with
    | none =>
      rw [hl] at rr
      have : valueAt vb k = none := by
        cases z : valueAt vb k with
        | none => rfl
        | some y => rw [z] at rr; cases rr
      rw [show (decide ((none : Option Int) = some i)) = false from rfl, Bool.false_and]
      exact .miss this
    | some j =>
      rw [hl] at rr
      obtain ⟨y, hy, ry⟩ := rr.some_of
      obtain ⟨u', rfl⟩ : ∃ u', y = Value.int j u' := ry
      have hd : decide ((some j : Option Int) = some i) = (i == j) := by
        by_cases z : j = i
        · subst z; simp
        · simp [z]; exact fun q => z q.symm
      rw [hd]
      exact .hit hy (SeqAt.EqAt.int_int i u j u') (hits_I rb t)
def rEqI (neg : Bool) : R2 := fun x y H Q => ∃ (a b : Addr) (ks ls : List (Key × Int)), x = .ref a ∧ y = .ref b ∧ Rd H a (.dK (ofI ks)) ∧ Rd H b (.dK (ofI ls)) ∧ Q (.bl (if neg then !eqDI ks ls else eqDI ks ls)) H
theorem ofI_len (l : List (Key × Int)) : (ofI l).length = l.length := List.length_map ..
theorem op_eqI {X : Cx} (hu : X.A.units < cLine) : OpR X (compareOp .Eq) (rEqI false) := by
  intro pins s σ H x y v u Q I rx ry h
  obtain ⟨a, b, ks, ls, rfl, rfl, ea, eb, q⟩ := h
  obtain rfl : v = Value.ref a := rx
  obtain rfl : u = Value.ref b := ry
  obtain ⟨_, ya, va, ra, da⟩ : ObjOk X.prog X.w H s.heap a (.dK (ofI ks)) := ea.ok I.hok
  obtain ⟨_, yb, vb, rb, db⟩ : ObjOk X.prog X.w H s.heap b (.dK (ofI ls)) := eb.ok I.hok
  refine PySem.W.keq_eq (knd := mixKind X.prog X.w) (r := ks.all fun p => decide (lookI ls p.1 = some p.2)) ya yb da db hu (fun _ => hits_I rb ra) (fin_bl I q ?_)
  unfold eqDI
  rw [if_neg Bool.false_ne_true, ← ofI_len ks, ← ofI_len ls, ra.length, rb.length]
theorem op_neI {X : Cx} (hu : X.A.units < cLine) : OpR X (compareOp .NotEq) (rEqI true) := by
  intro pins s σ H x y v u Q I rx ry h
  obtain ⟨a, b, ks, ls, rfl, rfl, ea, eb, q⟩ := h
  obtain rfl : v = Value.ref a := rx
  obtain rfl : u = Value.ref b := ry
  obtain ⟨_, ya, va, ra, da⟩ : ObjOk X.prog X.w H s.heap a (.dK (ofI ks)) := ea.ok I.hok
  obtain ⟨_, yb, vb, rb, db⟩ : ObjOk X.prog X.w H s.heap b (.dK (ofI ls)) := eb.ok I.hok
  refine PySem.W.keq_ne (knd := mixKind X.prog X.w) (r := ks.all fun p => decide (lookI ls p.1 = some p.2)) ya yb da db hu (fun _ => hits_I rb ra) (fin_bl I q ?_)
  unfold eqDI
  rw [if_pos rfl, ← ofI_len ks, ← ofI_len ls, ra.length, rb.length]
def svI (l : List (Key × Int)) : List (Key × Sv) := l.map fun p => (p.1, Sv.dat (.int p.2))
def gEqI (neg : Bool) : G2 := fun x y st ok => withK x st fun xs => withK y st fun ys => ∃ ks ls, xs = svI ks ∧ ys = svI ls ∧ ok (.dat (.bl (if neg then !eqDI ks ls else eqDI ks ls))) st
theorem vs_I {K : PySem.W.Frag} {I : Hp} : ∀ {ks : List (Key × Int)} {vs : List (Key × V)}, Paired (RK K I) (svI ks) vs → vs = ofI ks
  | [], _, .nil => rfl
  | (k, i) :: ks, _, .cons (b := (k', v)) h t => by
    obtain ⟨h1, h2⟩ := h
    have h1 : k = k' := h1
    subst h1
    cases h2 with
    | dat h3 =>
      cases h3
      rw [vs_I t]
      rfl
theorem lr_eqI {K : PySem.W.Frag} {neg : Bool} : LR2 K (rEqI neg) (gEqI neg) := by
  intro x y st I H ok Q v w wd ix iy h c
  obtain ⟨a, us, xs, rfl, hd, hp, h⟩ := withK_rd wd ix h
  obtain ⟨b, ws, ys, rfl, hd2, hp2, ks, ls, rfl, rfl, h⟩ := withK_rd wd iy h
  rw [vs_I hp] at hd
  rw [vs_I hp2] at hd2
  exact ⟨a, b, ks, ls, rfl, rfl, hd, hd2, c.now wd h (.dat (.bl _))⟩
def dStar (te : DE) (t : DA) : DA := fun Δ st ok ex => te Δ st (fun x st1 => match x with
  | .dat (.tup ds) => t Δ st1 (fun ys st2 => ok (ds.map Sv.dat ++ ys) st2) ex
  | .dat (.lst ds) => t Δ st1 (fun ys st2 => ok (ds.map Sv.dat ++ ys) st2) ex
  | _ => False) ex
theorem lowA_star {K : PySem.W.Frag} {W : WX} {te : DE} {t : DA} : ∀ σ H Q, lowA K (dStar te t) W σ H Q → StX.tStar K (low K te W) (lowA K t W) σ H Q := by
  rintro σ H Q ⟨Δ, st, I, ok, ex, wd, sl, h, c, cx⟩
  refine low_go wd sl h (fun x st1 v I1 H1 h1 w1 s1 i1 => ?_) cx
  cases i1 with
  | own p => exact h1.elim
  | dat hd =>
    cases hd with
    | tup a b =>
      refine ⟨_, _, rfl, .inl (w1.sub.st (.inl (.inl a))), lowA_go w1 (sl.mono s1.ii) h1 (fun ys st2 vs I2 H2 h2 w2 s2 i2 => ?_) (cx.go s1)⟩
      exact c _ _ _ _ _ h2 w2 (s1.trans s2) (paired_app (isSs_of (b.mono s2.ii)) i2)
    | lst a b =>
      refine ⟨_, _, rfl, .inr (w1.sub.sl (.inl (.inl a))), lowA_go w1 (sl.mono s1.ii) h1 (fun ys st2 vs I2 H2 h2 w2 s2 i2 => ?_) (cx.go s1)⟩
      exact c _ _ _ _ _ h2 w2 (s1.trans s2) (paired_app (isSs_of (b.mono s2.ii)) i2)
    | _ => exact h1.elim
theorem astar {X : Cx} {W : WX} {e : Expr} {es : List Expr} {te : DE} {t : DA} {p : Pos} (he : PEd X W e te) (hr : PAd X W es t) (hs : starEach (.Starred e p :: es) X.env = (true, eval e X.env) :: starEach es X.env := by rfl) : PAd X W (.Starred e p :: es) (dStar te t) := by
  refine ⟨fun pos pins s σ H Q J h => ?_⟩
  exact (StX.pa_star he hr hs).run pos pins s σ H Q J (lowA_star σ H Q h)
end DD
namespace DD
open PySem PySem.Spec PyProof.Rows L2
theorem len_own {prog : Program} {w : World} {A : Around} {E : Value → Shared → Prop} {s : Shared} {K : PySem.W.Frag} {x C f : Addr} {ox : Obj} {od : Option Obj} {Q : Value → Shared → Prop} (X : K.In s.heap) (I : PySem.W.InstAt s.heap x ox C od)
    (hs : PySem.W.findIn K (.ref C) "__len__" = some (some (.ref f))) (hf : PySem.W.isFn K (.ref f) = true)
    (h : wpAny (model prog w) A.in1 (call (.ref f) [.ref x]) (fun v s1 => ∃ n t, v = .int n t ∧ 0 ≤ n ∧ n < 2 ^ 63 ∧ ∀ t' k, Q (.int n t') { s1 with toks := k }) E s) : wpAny (model prog w) A (call (.builtin "len") [.ref x]) Q E s := by
  apply Calls.call_function_entry kind_len plain_len entry_len (args_len1 _)
  unfold Builtin.«len»
  apply wpAny_bind (m := oneArg "len" _)
  apply wpAny_pure
  apply wpAny_bind (m := callSpecial? (.ref x) (PySem.Str.ofString "__len__"))
  refine PySem.W.special_fn X I hs (beq_iff_eq.mp hf) (wpAny_mono h (fun v s1 z => ?_) fun _ _ z => z)
  obtain ⟨n, t, rfl, h0, h1, q⟩ := z
  refine wpAny_bind (wpAny_holding (wpAny_pure ?_))
  apply wpAny_bind
  apply wpAny_letGo
  show wpAny _ _ (if n < 0 then _ else _) _ _ _
  rw [if_neg (Int.not_lt.mpr h0)]
  show wpAny _ _ (if n ≥ 2 ^ 63 then _ else _) _ _ _
  rw [if_neg (Int.not_le.mpr h1)]
  exact wpAny_bind (wpAny_mkInt (wpAny_pure ⟨_, rfl, q _ _⟩))
def tLenAt (C : Addr) (sp : Sp) (E : L2.St → XK) (ta : TE) : TE := fun σ H Q => ta σ H fun x H1 => ∃ a dx fs, x = .ref a ∧ H1 a = some (.ins C dx fs) ∧ sp [x] H1 (fun v H2 => ∃ n : Int, v = .int n ∧ 0 ≤ n ∧ n < 2 ^ 63 ∧ Q (.int n) H2) (E σ)
theorem pe_lenAt {X : Cx} {CX : CXT} {k : Nat} {f C : Addr} {fd : FuncData} {ps : List Str} {sp : Sp} {E : L2.St → XK} {p pos : Pos} {e : Expr} {ta : TE} (ha : PE X e ta) (hs : PySem.W.findIn X.K (.ref C) "__len__" = some (some (.ref f))) (hfn : PySem.W.isFn X.K (.ref f) = true)
    (F : FnOk X.prog X.w X.K X.mg X.base CX k f fd ps sp) (hr : Room (k + 1) X.A) (bb : Binds X.K fd ps []) (hx : ∀ σ, PassesAt CX X σ (E σ)) (hg : Gl X "len") (hm : X.mg "len" = none) (hst : starEach [e] X.env = (false, eval e X.env) :: starEach [] X.env) (hpl : (backTo pos (starEach [] X.env)).any (·.1) = false) :
    PE X (.Call (.Name "len" p) [e] [] pos) (tLenAt C sp E ta) := by
  refine ⟨fun pins s σ H Q I h => ?_⟩
  apply wpAny_Call_Name_kw
  apply ld_blt I hg hm boot_len
  refine PyProof.Rows.callWith_builtin1 (thn ((pa_cons ha pa_nil hst).run pos pins s σ H (fun vs H1 => match vs with
    | [x] => ∃ a dx fs, x = .ref a ∧ H1 a = some (.ins C dx fs) ∧ sp [x] H1 (fun v H2 => ∃ n : Int, v = .int n ∧ 0 ≤ n ∧ n < 2 ^ 63 ∧ Q (.int n) H2) (E σ)
    | _ => False) I h) fun us s2 ⟨vs, H2, I2, rv, hvs⟩ => ?_) hst hpl
  obtain ⟨x, rfl⟩ : ∃ x, vs = [x] := by
    match vs, hvs with
    | [x], _ => exact ⟨x, rfl⟩
  obtain ⟨c, dx, fs, ex, ec, q⟩ := hvs
  subst ex
  obtain ⟨u, eu, ru⟩ := vals1 rv
  subst eu
  obtain rfl : u = Value.ref c := ru
  obtain ⟨mA, O, _⟩ := ins_get I2.hok ec
  obtain ⟨od, J, _⟩ := O.look
  refine len_own I2.kIn J hs hfn ?_
  apply wpAny_call
  have len : ([Value.ref c] ++ []).length = ps.length := by rw [← F.len _ _ _ _ q]; rfl
  apply codeAny_mono (F.run X.A.in1 X.stack s2 H2 ⟨[.ref c], []⟩ ([Value.ref c] ++ []) [V.ref c] (fun v H2 => ∃ n : Int, v = .int n ∧ 0 ≤ n ∧ n < 2 ^ 63 ∧ Q (.int n) H2) (E σ) hr.in1 I2.env0.in1 (bb _ [.ref c] I2.kIn len) (.cons (show RelV (V.ref c) (Value.ref c) from rfl) .nil) q)
  intro res s3 hres
  match res, hres with
  | .error er, z => exact hx σ pins _ _ er s3 I2 z
  | .ok (.ret w'), z =>
    obtain ⟨v', H3, I3, rv', n, e2, h0, h1, q2⟩ := I2.after z
    subst e2
    obtain ⟨t, rfl⟩ : ∃ t, w' = Value.int n t := rv'
    exact ⟨n, t, rfl, h0, h1, fun t' k => ⟨.int n, H3, I3.tok _, ⟨_, rfl⟩, q2⟩⟩
  | .ok .next, z => exact False.elim z
  | .ok .brk, z => exact False.elim z
  | .ok .cont, z => exact False.elim z
def dLenO (C : Addr) (ct : Ct) (te : DE) : DE := fun Δ st ok ex => te Δ st (fun x st1 => match x with
  | .dat (.ins D fs) => D = C ∧ ct [.dat (.ins D fs)] st1 (fun v st2 => ∃ n : Nat, v = .dat (.int (n : Int)) ∧ n < 1000 ∧ ok v st2) ex
  | _ => False) ex
theorem low_lenO {K : PySem.W.Frag} {W : WX} {C : Addr} {ct : Ct} {te : DE} : ∀ σ H Q, low K (dLenO C ct te) W σ H Q → tLenAt C (lowF K ct) (WE W) (low K te W) σ H Q := by
  rintro σ H Q ⟨Δ, st, I, ok, ex, wd, sl, h, c, cx⟩
  refine low_go wd sl h (fun x st1 v I1 H1 h1 w1 s1 i1 => ?_) cx
  cases i1 with
  | own p => exact h1.elim
  | dat hd =>
    cases hd with
    | ins a b =>
      obtain ⟨rfl, h1⟩ := h1
      refine ⟨_, _, _, rfl, w1.sub.at a (by intro k z; cases z) (by intro k z; cases z), _, st1, I1, _, ex, w1, .cons (.dat (.ins a b)) .nil, h1, fun s2 st2 v2 I2 H2 h2 w2 s2' i2 => ?_, cx.go s1⟩
      obtain ⟨n, rfl, hn, h3⟩ := h2
      cases i2 with
      | dat hd2 =>
        cases hd2
        exact ⟨n, rfl, by omega, by omega, (c.go (s1.trans s2')).now w2 h3 (.dat (.int _))⟩
    | _ => exact h1.elim
theorem dlenO {X : Cx} {W : WX} {ct : Ct} {k : Nat} {f C : Addr} {fd : FuncData} {ps : List Str} {p pos : Pos} {e : Expr} {te : DE} (hs : PySem.W.findIn X.K (.ref C) "__len__" = some (some (.ref f))) (hfn : PySem.W.isFn X.K (.ref f) = true)
    (F : FnOk X.prog X.w X.K X.mg X.base (L2.CX X.prog X.w) k f fd ps (lowF X.K ct)) (hr : Room (k + 1) X.A) (bb : Binds X.K fd ps []) (hm : X.mg "len" = none) (tk : Takes X W) (he : PEd X W e te) (hg : Gl X "len" := by rfl)
    (hst : starEach [e] X.env = (false, eval e X.env) :: starEach [] X.env := by rfl) (hpl : (backTo pos (starEach [] X.env)).any (·.1) = false := by rfl) : PEd X W (.Call (.Name "len" p) [e] [] pos) (dLenO C ct te) :=
  PE.imp (pe_lenAt he hs hfn F hr bb (fun σ => passAt tk σ) hg hm hst hpl) low_lenO
end DD
namespace DD
open PySem PySem.Spec PyProof.Rows L2
@[irreducible] def lcD2 (g : DG) (tt : DT) (it1 : DI) (g1 : DG) (tt1 : DT) (te : DE) (vs vs1 : List Nat) (xs : List Sv) (Δ : List Sv) (st1 : Store) (ok : OK) : Prop := ∀ D, D ∉ keys st1 → ∃ J : Nat → List Sv → Store → Prop, J 0 [] st1 ∧
  (∀ i d acc st', xs[i]? = some d → J i acc st' → D ∉ keys st' → g d (wipeD Δ vs) ((D, .lst acc) :: st') fun Δ2 st2 => tt Δ2 st2 (fun b st3 =>
    (b = true → it1 Δ2 st3 (fun ys st4 => ∃ J1 : Nat → List Sv → Store → Prop, (∃ acc1 st5, st4 = (D, .lst acc1) :: st5 ∧ J1 0 acc1 st5) ∧
      (∀ j e acc1 st5, ys[j]? = some e → J1 j acc1 st5 → D ∉ keys st5 → g1 e (wipeD Δ2 vs1) ((D, .lst acc1) :: st5) fun Δ3 st6 => tt1 Δ3 st6 (fun b1 st7 =>
        (b1 = true → te Δ3 st7 (fun y st8 => ∃ acc' st9, st8 = (D, .lst acc') :: st9 ∧ acc'.length < sizeLine ∧ J1 (j + 1) (acc' ++ [y]) st9) fun _ _ => False) ∧ (b1 = false → ∃ acc' st9, st7 = (D, .lst acc') :: st9 ∧ J1 (j + 1) acc' st9)) fun _ _ => False) ∧
      ∀ acc1 st5, J1 ys.length acc1 st5 → J (i + 1) acc1 st5) fun _ _ => False) ∧
    (b = false → ∃ acc' st5, st3 = (D, .lst acc') :: st5 ∧ J (i + 1) acc' st5)) fun _ _ => False) ∧
  ∀ acc st', J xs.length acc st' → ∃ ds, AllD acc ds ∧ ok (.dat (.lst ds)) st'
theorem lcD2_eq (g : DG) (tt : DT) (it1 : DI) (g1 : DG) (tt1 : DT) (te : DE) (vs vs1 : List Nat) (xs : List Sv) (Δ : List Sv) (st1 : Store) (ok : OK) : lcD2 g tt it1 g1 tt1 te vs vs1 xs Δ st1 ok = (∀ D, D ∉ keys st1 → ∃ J : Nat → List Sv → Store → Prop, J 0 [] st1 ∧
  (∀ i d acc st', xs[i]? = some d → J i acc st' → D ∉ keys st' → g d (wipeD Δ vs) ((D, .lst acc) :: st') fun Δ2 st2 => tt Δ2 st2 (fun b st3 =>
    (b = true → it1 Δ2 st3 (fun ys st4 => ∃ J1 : Nat → List Sv → Store → Prop, (∃ acc1 st5, st4 = (D, .lst acc1) :: st5 ∧ J1 0 acc1 st5) ∧
      (∀ j e acc1 st5, ys[j]? = some e → J1 j acc1 st5 → D ∉ keys st5 → g1 e (wipeD Δ2 vs1) ((D, .lst acc1) :: st5) fun Δ3 st6 => tt1 Δ3 st6 (fun b1 st7 =>
        (b1 = true → te Δ3 st7 (fun y st8 => ∃ acc' st9, st8 = (D, .lst acc') :: st9 ∧ acc'.length < sizeLine ∧ J1 (j + 1) (acc' ++ [y]) st9) fun _ _ => False) ∧ (b1 = false → ∃ acc' st9, st7 = (D, .lst acc') :: st9 ∧ J1 (j + 1) acc' st9)) fun _ _ => False) ∧
      ∀ acc1 st5, J1 ys.length acc1 st5 → J (i + 1) acc1 st5) fun _ _ => False) ∧
    (b = false → ∃ acc' st5, st3 = (D, .lst acc') :: st5 ∧ J (i + 1) acc' st5)) fun _ _ => False) ∧
  ∀ acc st', J xs.length acc st' → ∃ ds, AllD acc ds ∧ ok (.dat (.lst ds)) st') := by
  unfold lcD2
  rfl
def dLc2 (it : DI) (g : DG) (tt : DT) (it1 : DI) (g1 : DG) (tt1 : DT) (te : DE) (vs vs1 : List Nat) : DE := fun Δ st ok ex => it Δ st (fun xs st1 => lcD2 g tt it1 g1 tt1 te vs vs1 xs Δ st1 ok) ex
theorem low_lc2 {K : PySem.W.Frag} {W : WX} {it it1 : DI} {g g1 : DG} {tt tt1 : DT} {te : DE} {vs vs1 : List Nat} : ∀ σ H Q, low K (dLc2 it g tt it1 g1 tt1 te vs vs1) W σ H Q → tLc2 (lowI K it W) (lowGw K vs g) (lowT K tt W0) (lowI K it1 W0) (lowGw K vs1 g1) (lowT K tt1 W0) (low K te W0) vs vs1 σ H Q := by
  rintro σ H Q ⟨Δ, st, I, ok, ex, wd, sl, h, c, cx⟩
  refine ⟨Δ, st, I, _, _, wd, sl, h, fun xs st1 I1 H1 J h1 w1 s1 k1 => ?_, cx⟩
  intro D hD
  have c1 := c.go s1
  have sl1 := sl.mono s1.ii
  obtain ⟨np, w2, s2⟩ := new_own (o := .lst []) (ob := .lst []) w1 hD (.lst .nil)
  rw [lcD2_eq] at h1
  obtain ⟨Jv, j0, jt, je⟩ := h1 D np
  obtain ⟨G, Y, wk, hg, hy⟩ := k1.w
  refine ⟨fun i m H' => m = xs.length - i ∧ i ≤ xs.length ∧ ∃ acc st' I', Jv i acc st' ∧ Wd K ((D, .lst acc) :: st') I' H' ∧ Stp st1 I1 H1 ((D, .lst acc) :: st') I' H', ⟨_, rfl, Nat.zero_le _, [], st1, I1, j0, w2, s2⟩, ?_⟩
  rintro i m H' ⟨rfl, hi, acc, st', I', hj, w', s'⟩
  have hG := hg _ I' H' w' s'
  by_cases hlt : i < xs.length
  · refine .inr ⟨wk.goes i H' hlt hG, fun H => ∃ acc st' I', Jv (i + 1) acc st' ∧ Wd K ((D, .lst acc) :: st') I' H ∧ Stp st1 I1 H1 ((D, .lst acc) :: st') I' H, fun H p => ⟨xs.length - (i + 1), by omega, rfl, hlt, p⟩, fun x H3 y => ?_⟩
    obtain ⟨d, I3, hd, w3, s3, ix⟩ := hy i H' x H3 _ I' hlt w' s' (wk.yields i H' x H3 hlt hG y)
    have s13 := s'.trans s3
    have nd : D ∉ keys st' := (List.nodup_cons.mp w'.nd).1
    refine ⟨d, _, _, I3, _, w3, sl_wipe (sl1.mono s13.ii) vs, ix, jt i d acc st' hd hj nd, fun Δ4 st4 σ4 I4 H4 h4 w4 s4 l4 e4 => ?_⟩
    have s14 := s13.trans s4
    refine ⟨by rw [e4, wipe_wipe], ?_⟩
    refine lowT_go w4 l4 h4 (fun b st5 I5 H5 h5 w5 s5 => ?_) (fun _ _ _ _ _ _ z => z.elim)
    have s15 := s14.trans s5
    cases b with
    | false =>
      refine iteF ?_
      obtain ⟨acc', st7, rfl, hj'⟩ := h5.2 rfl
      exact ⟨acc', st7, I5, hj', w5, s15⟩
    | true =>
      refine iteT ?_
      refine ⟨Δ4, st5, I5, _, _, w5, l4.mono s5.ii, h5.1 rfl, fun ys st6 I6 H6 J1 h6 w6 s6 k6 => ?_, fun _ _ _ _ _ _ z => z.elim⟩
      have s16 := s15.trans s6
      obtain ⟨Jw, ⟨acc1, st7, rfl, j10⟩, jt1, je1⟩ := h6
      obtain ⟨G1, Y1, wk1, hg1, hy1⟩ := k6.w
      refine ⟨fun j k H => k = ys.length - j ∧ j ≤ ys.length ∧ ∃ acc st' I', Jw j acc st' ∧ Wd K ((D, .lst acc) :: st') I' H ∧ Stp ((D, Ob.lst acc1) :: st7) I6 H6 ((D, .lst acc) :: st') I' H, ⟨_, rfl, Nat.zero_le _, acc1, st7, I6, j10, w6, Stp.refl _ _ _⟩, ?_⟩
      rintro j k H7 ⟨rfl, hjl, acc2, st8, I8, hj2, w8, s8⟩
      have hG1 := hg1 _ I8 H7 w8 s8
      by_cases hlt1 : j < ys.length
      · refine .inr ⟨wk1.goes j H7 hlt1 hG1, fun H => ∃ acc st' I', Jw (j + 1) acc st' ∧ Wd K ((D, .lst acc) :: st') I' H ∧ Stp ((D, Ob.lst acc1) :: st7) I6 H6 ((D, .lst acc) :: st') I' H, fun H p => ⟨ys.length - (j + 1), by omega, rfl, hlt1, p⟩, fun x1 H9 y1 => ?_⟩
        obtain ⟨d1, I9, hd1, w9, s9, ix1⟩ := hy1 j H7 x1 H9 _ I8 hlt1 w8 s8 (wk1.yields j H7 x1 H9 hlt1 hG1 y1)
        have s89 := s8.trans s9
        have nd1 : D ∉ keys st8 := (List.nodup_cons.mp w8.nd).1
        refine ⟨d1, _, _, I9, _, w9, sl_wipe (((l4.mono s5.ii).mono s6.ii).mono s89.ii) vs1, ix1, jt1 j d1 acc2 st8 hd1 hj2 nd1, fun Δa sta σa Ia Ha ha wa sa la ea => ?_⟩
        have s8a := s89.trans sa
        refine ⟨by rw [ea, wipe_wipe], ?_⟩
        refine lowT_go wa la ha (fun b1 stb Ib Hb hb wb sb => ?_) (fun _ _ _ _ _ _ z => z.elim)
        have s8b := s8a.trans sb
        cases b1 with
        | true =>
          refine iteT (low_go wb (la.mono sb.ii) (hb.1 rfl) (fun z stc u Ic Hc hc wc sc ic => ?_) (fun _ _ _ _ _ _ z => z.elim))
          obtain ⟨acc', ste, rfl, hlen, hj'⟩ := hc
          obtain ⟨_, o, ho, io⟩ := wc.own D _ List.mem_cons_self
          cases io with
          | @lst _ ws hws =>
            obtain ⟨w7, s7⟩ := set_own (j := 0) (o' := .lst (ws ++ [u])) (ob' := .lst (acc' ++ [z])) wc rfl (.lst (paired_app hws (.cons ic .nil)))
            exact ⟨ws, ho, by rw [← paired_len hws]; exact hlen, acc' ++ [z], ste, Ic, hj', w7, (s8b.trans sc).trans s7⟩
        | false =>
          refine iteF ?_
          obtain ⟨acc', ste, rfl, hj'⟩ := hb.2 rfl
          exact ⟨acc', ste, Ib, hj', wb, s8b⟩
      · have ej : j = ys.length := by omega
        subst ej
        exact .inl ⟨wk1.stops H7 hG1, acc2, st8, I8, je1 _ _ hj2, w8, s16.trans s8⟩
  · have ei : i = xs.length := by omega
    subst ei
    obtain ⟨ds, ha, hok⟩ := je _ _ hj
    obtain ⟨_, o, ho, io⟩ := w'.own D _ List.mem_cons_self
    cases io with
    | lst hs =>
      obtain ⟨w9, s9, e9⟩ := pub_head w' ho s'
      exact .inl ⟨wk.stops H' hG, c1 _ _ _ _ _ hok w9 s9 (.dat (.lst upd_same ((isDs_of ha hs).mono e9)))⟩
theorem ssetLc2 {X : Cx} {W : WX} {y : Str} {py : Pos} {elt tg iter tg1 iter1 : Expr} {ifs ifs1 : List Expr} {scope : Scope} {pos spos : Pos} {te : DE} (i : Nat) (own : List (Str × Nat)) (vs1 : List Nat) {it it1 : DI} {g g1 : DG} {tt tt1 : DT} (hN : X.N.Nodup) (hi : PId X W tg iter it) (ok : BlkOk X.N X.env.scope scope own)
    (hg : ∀ (s : Shared) (H : Hp) (C : Addr) (cl : List (Str × Addr)) (fp : List Addr), PGw (X.blk s H scope (compEnvC scope cl C X.env) fp) (own.map (·.2)) tg g) (ht : ∀ (s : Shared) (H : Hp) (C : Addr) (cl : List (Str × Addr)) (fp : List Addr), PTsd (X.blk s H scope (compEnvC scope cl C X.env) fp) ifs tt)
    (hi1 : ∀ (s : Shared) (H : Hp) (C : Addr) (cl : List (Str × Addr)) (fp : List Addr), PId (X.blk s H scope (compEnvC scope cl C X.env) fp) W0 tg1 iter1 it1)
    (hg1 : ∀ (s : Shared) (H : Hp) (C : Addr) (cl : List (Str × Addr)) (fp : List Addr), PGw (X.blk s H scope (compEnvC scope cl C X.env) fp) vs1 tg1 g1) (ht1 : ∀ (s : Shared) (H : Hp) (C : Addr) (cl : List (Str × Addr)) (fp : List Addr), PTsd (X.blk s H scope (compEnvC scope cl C X.env) fp) ifs1 tt1)
    (he : ∀ (s : Shared) (H : Hp) (C : Addr) (cl : List (Str × Addr)) (fp : List Addr), PEd (X.blk s H scope (compEnvC scope cl C X.env) fp) W0 elt te) (hv : ∀ i ∈ vs1, i ∈ own.map (·.2) := by decide) (hc : X.calm = true := by rfl) (hy : X.N[i]? = some y := by rfl) (hyl : X.env.scope.names.lookup y = some .local := by rfl)
    (hsw : swapsWith (.ListComp elt [⟨tg, iter, ifs, 0⟩, ⟨tg1, iter1, ifs1, 0⟩] scope pos) (some (.Name y py)) spos.line X.env = pure true := by rfl) (hs : ∀ x, foldedSetIterable iter X.env x = pure x := by intro _; rfl)
    (hs1 : ∀ env x, foldedSetIterable iter1 env x = pure x := by intro _ _; rfl) :
    PSd X W (.Assign [.Name y py] (.ListComp elt [⟨tg, iter, ifs, 0⟩, ⟨tg1, iter1, ifs1, 0⟩] scope pos) spos) (dAsg i (dLc2 it g tt it1 g1 tt1 te (own.map (·.2)) vs1)) :=
  PS.imp (ps_setLc2 hc hN hy hyl hsw hi ok hv hg ht hi1 hg1 ht1 he hs hs1) fun D σ H h => low_lc2 _ _ _ (lowS_asg D σ H h)
/-- both walks pure: what is made -/
def J2 {α β : Type} (as : List α) (bs : α → List β) (f : α → β → Option Dt) (st : Store) : Nat → List Sv → Store → Prop := fun i acc st' => st' = st ∧ acc = ((as.take i).flatMap fun a => (bs a).filterMap (f a)).map Sv.dat
def J2i {α β : Type} (as : List α) (bs : α → List β) (f : α → β → Option Dt) (st : Store) (i : Nat) (a : α) : Nat → List Sv → Store → Prop := fun j acc st' => st' = st ∧ acc = (((as.take i).flatMap fun a => (bs a).filterMap (f a)) ++ ((bs a).take j).filterMap (f a)).map Sv.dat
theorem lc2_pure {α β : Type} {g : DG} {tt : DT} {it1 : DI} {g1 : DG} {tt1 : DT} {te : DE} {vs vs1 : List Nat} {xs : List Sv} {Δ : List Sv} {st : Store} {ok : OK} (as : List α) (ea : α → Dt) (bs : α → List β) (f : α → β → Option Dt) (hx : xs = as.map fun a => .dat (ea a))
    (hb : ∀ (i : Nat) (a : α) (D : Addr) (acc : List Sv), as[i]? = some a → D ∉ keys st → J2 as bs f st i acc st → g (.dat (ea a)) (wipeD Δ vs) ((D, .lst acc) :: st) fun Δ2 st2 => tt Δ2 st2 (fun b st3 =>
    (b = true → it1 Δ2 st3 (fun ys st4 => ∃ J1 : Nat → List Sv → Store → Prop, (∃ acc1 st5, st4 = (D, .lst acc1) :: st5 ∧ J1 0 acc1 st5) ∧
      (∀ j e acc1 st5, ys[j]? = some e → J1 j acc1 st5 → D ∉ keys st5 → g1 e (wipeD Δ2 vs1) ((D, .lst acc1) :: st5) fun Δ3 st6 => tt1 Δ3 st6 (fun b1 st7 =>
        (b1 = true → te Δ3 st7 (fun y st8 => ∃ acc' st9, st8 = (D, .lst acc') :: st9 ∧ acc'.length < sizeLine ∧ J1 (j + 1) (acc' ++ [y]) st9) fun _ _ => False) ∧ (b1 = false → ∃ acc' st9, st7 = (D, .lst acc') :: st9 ∧ J1 (j + 1) acc' st9)) fun _ _ => False) ∧
      ∀ acc1 st5, J1 ys.length acc1 st5 → J2 as bs f st (i + 1) acc1 st5) fun _ _ => False) ∧
    (b = false → ∃ acc' st5, st3 = (D, .lst acc') :: st5 ∧ J2 as bs f st (i + 1) acc' st5)) fun _ _ => False)
    (hk : ok (.dat (.lst (as.flatMap fun a => (bs a).filterMap (f a)))) st) : lcD2 g tt it1 g1 tt1 te vs vs1 xs Δ st ok := by
  subst hx
  rw [lcD2_eq]
  intro D hD
  refine ⟨J2 as bs f st, ⟨rfl, rfl⟩, ?_, ?_⟩
  · rintro i d acc st' hd hJ hD'
    obtain ⟨rfl, _⟩ := id hJ
    rw [List.getElem?_map] at hd
    cases ea' : as[i]? with
    | none => rw [ea'] at hd; cases hd
    | some a =>
      rw [ea'] at hd
      cases hd
      exact hb i a D acc ea' hD' hJ
  · rintro acc st' ⟨rfl, rfl⟩
    rw [List.length_map, List.take_length]
    exact ⟨_, .map _, hk⟩
theorem lc2_in {α β : Type} {g1 : DG} {tt1 : DT} {te : DE} {vs1 : List Nat} {as : List α} {bs : α → List β} {f : α → β → Option Dt} {st : Store} {i : Nat} {a : α} {D : Addr} {acc : List Sv} {ys : List Sv} {Δ2 : List Sv} (eb : β → Dt) (ha : as[i]? = some a) (hD : D ∉ keys st) (hJ : J2 as bs f st i acc st)
    (hy : ys = (bs a).map fun b => .dat (eb b))
    (hb : ∀ (j : Nat) (b : β) (acc1 : List Sv), (bs a)[j]? = some b → J2i as bs f st i a j acc1 st → g1 (.dat (eb b)) (wipeD Δ2 vs1) ((D, .lst acc1) :: st) fun Δ3 st6 => tt1 Δ3 st6 (fun b1 st7 =>
        (b1 = true → te Δ3 st7 (fun y st8 => ∃ acc' st9, st8 = (D, Ob.lst acc') :: st9 ∧ acc'.length < sizeLine ∧ J2i as bs f st i a (j + 1) (acc' ++ [y]) st9) fun _ _ => False) ∧ (b1 = false → ∃ acc' st9, st7 = (D, Ob.lst acc') :: st9 ∧ J2i as bs f st i a (j + 1) acc' st9)) fun _ _ => False) :
    ∃ J1 : Nat → List Sv → Store → Prop, (∃ acc1 st5, ((D, Ob.lst acc) :: st) = (D, Ob.lst acc1) :: st5 ∧ J1 0 acc1 st5) ∧
      (∀ j e acc1 st5, ys[j]? = some e → J1 j acc1 st5 → D ∉ keys st5 → g1 e (wipeD Δ2 vs1) ((D, .lst acc1) :: st5) fun Δ3 st6 => tt1 Δ3 st6 (fun b1 st7 =>
        (b1 = true → te Δ3 st7 (fun y st8 => ∃ acc' st9, st8 = (D, Ob.lst acc') :: st9 ∧ acc'.length < sizeLine ∧ J1 (j + 1) (acc' ++ [y]) st9) fun _ _ => False) ∧ (b1 = false → ∃ acc' st9, st7 = (D, Ob.lst acc') :: st9 ∧ J1 (j + 1) acc' st9)) fun _ _ => False) ∧
      ∀ acc1 st5, J1 ys.length acc1 st5 → J2 as bs f st (i + 1) acc1 st5 := by
  subst hy
  refine ⟨J2i as bs f st i a, ⟨acc, st, rfl, rfl, ?_⟩, ?_, ?_⟩
  · rw [hJ.2]
    simp
  · rintro j e acc1 st5 he hK hD5
    obtain ⟨rfl, _⟩ := id hK
    rw [List.getElem?_map] at he
    cases eb' : (bs a)[j]? with
    | none => rw [eb'] at he; cases he
    | some b =>
      rw [eb'] at he
      cases he
      exact hb j b acc1 eb' hK
  · rintro acc1 st5 ⟨rfl, rfl⟩
    rw [List.length_map, List.take_length]
    refine ⟨rfl, ?_⟩
    rw [List.take_succ, ha]
    simp
theorem l2_yes {α β : Type} {as : List α} {bs : α → List β} {f : α → β → Option Dt} {st : Store} {i j : Nat} {a : α} {b : β} {D : Addr} {acc : List Sv} {d : Dt} (hb : (bs a)[j]? = some b) (hJ : J2i as bs f st i a j acc st) (hf : f a b = some d) (hl : acc.length < sizeLine) :
    ∃ acc' st9, ((D, Ob.lst acc) :: st) = (D, Ob.lst acc') :: st9 ∧ acc'.length < sizeLine ∧ J2i as bs f st i a (j + 1) (acc' ++ [.dat d]) st9 := by
  refine ⟨acc, st, rfl, hl, rfl, ?_⟩
  rw [hJ.2, List.take_succ, hb]
  simp [hf]
theorem l2_no {α β : Type} {as : List α} {bs : α → List β} {f : α → β → Option Dt} {st : Store} {i j : Nat} {a : α} {b : β} {D : Addr} {acc : List Sv} (hb : (bs a)[j]? = some b) (hJ : J2i as bs f st i a j acc st) (hf : f a b = none) :
    ∃ acc' st9, ((D, Ob.lst acc) :: st) = (D, Ob.lst acc') :: st9 ∧ J2i as bs f st i a (j + 1) acc' st9 := by
  refine ⟨acc, st, rfl, rfl, ?_⟩
  rw [hJ.2, List.take_succ, hb]
  simp [hf]
end DD
namespace DD
open PySem PySem.Spec PyProof.Rows L2
def dTruT (te : DE) : DT := fun Δ st ok ex => te Δ st (fun x st1 => withT x fun xs => ok (!xs.isEmpty) st1) ex
theorem lowT_truT {K : PySem.W.Frag} {W : WX} {te : DE} : ∀ σ H Q, lowT K (dTruT te) W σ H Q → low K te W σ H (fun x H' => ∃ k, TruV K x H' k ∧ Q k H') := by
  rintro σ H Q ⟨Δ, st, I, ok, ex, wd, sl, h, c, cx⟩
  refine low_go wd sl h (fun x st1 v I1 H1 h1 w1 s1 i1 => ?_) cx
  obtain ⟨a, vs, xs, rfl, hs, hp, h1⟩ := withT_rd w1 i1 h1
  exact ⟨_, .inr (.inl ⟨vs, hs, by rw [← emp_eq hp]⟩), c _ _ _ _ h1 w1 s1⟩
theorem ttruT {X : Cx} {W : WX} {e : Expr} {te : DE} (h : PEd X W e te) (he : ∀ whole, isTrue e X.env whole = (do let v ← whole; standAt e.pos; holding [v] (truthy v)) := by intro _; rfl) : PTd X W e (dTruT te) := PT.imp (pt_truth h he) lowT_truT
def gLtStr : G2 := fun x y st ok => match x, y with
  | .dat (.str a), .dat (.str b) => ok (.dat (.bl (decide (a.cps.toList < b.cps.toList)))) st
  | _, _ => False
theorem lr_ltStr {K : PySem.W.Frag} : LR2 K (fun x y H Q => ∃ i j, x = .str i ∧ y = .str j ∧ Q (.bl (decide (i.cps.toList < j.cps.toList))) H) gLtStr := by
  intro x y st I H ok Q v w wd ix iy h c
  cases ix with
  | own p => exact h.elim
  | dat hx =>
    cases hx with
    | str a =>
      cases iy with
      | own p => exact h.elim
      | dat hy =>
        cases hy with
        | str b => exact ⟨a, b, rfl, rfl, c.now wd h (.dat (.bl _))⟩
        | _ => exact h.elim
    | _ => cases iy <;> exact h.elim
end DD
namespace SP
open PySem PySem.Spec PyProof.Rows L2 DD
section
variable {α : Type} (lt : α → α → Bool)
def lastOk (t : List α) (i : α) : Bool := match t.getLast? with
  | none => false
  | some y => lt y i
def growF (t : List α) (i : α) : Option (List α) := if (t.isEmpty || lastOk lt t i) = true then some (t ++ [i]) else none
def lvU (items : List α) : Nat → List (List α)
  | 0 => [[]]
  | n + 1 => (lvU items n).flatMap fun t => items.filterMap (growF lt t)
def subsU (items : List α) : Nat → List (List α)
  | 0 => [[]]
  | n + 1 => subsU items n ++ lvU lt items (n + 1)
def setsU (ns : List α) : List (List α) := ns.foldl (fun f n => f ++ f.map (· ++ [n])) [[]]
structure Ord1 : Prop where
  tr : ∀ a b c, lt a b = true → lt b c = true → lt a c = true
  ir : ∀ a, lt a a = false
abbrev Asc (t : List α) : Prop := t.Pairwise fun a b => lt a b = true
inductive Lx : List α → List α → Prop
  | head {x y : α} {a b : List α} : lt x y = true → Lx (x :: a) (y :: b)
  | tail {x : α} {a b : List α} : Lx a b → Lx (x :: a) (x :: b)
variable {lt}
theorem lx_app {a b : List α} (h : Lx lt a b) (r s : List α) : Lx lt (a ++ r) (b ++ s) := by
  induction h with
  | head h => exact .head h
  | tail _ ih => exact .tail ih
theorem lx_end (p : List α) {x y : α} (h : lt x y = true) : Lx lt (p ++ [x]) (p ++ [y]) := by
  induction p with
  | nil => exact .head h
  | cons a p ih => exact .tail ih
theorem lx_ne {o : Ord1 lt} {a b : List α} (h : Lx lt a b) : a ≠ b := by
  induction h with
  | @head x y a b h =>
    intro e
    cases e
    rw [o.ir] at h
    cases h
  | tail _ ih => intro e; cases e; exact ih rfl
theorem last_ok {t : List α} {y : α} (hy : t.getLast? = some y) (i : α) : lastOk lt t i = lt y i := by
  unfold lastOk
  rw [hy]
theorem grow_some {t : List α} {i : α} {u : List α} (h : growF lt t i = some u) : u = t ++ [i] ∧ ∀ y, t.getLast? = some y → lt y i = true := by
  unfold growF at h
  by_cases hc : (t.isEmpty || lastOk lt t i) = true
  · rw [if_pos hc] at h
    cases h
    refine ⟨rfl, fun y hy => ?_⟩
    rw [last_ok hy] at hc
    cases t with
    | nil => cases hy
    | cons a t => simpa using hc
  · rw [if_neg hc] at h
    cases h
theorem grow_yes {t : List α} {i : α} (h : ∀ y, t.getLast? = some y → lt y i = true) : growF lt t i = some (t ++ [i]) := by
  unfold growF
  rw [if_pos]
  cases t with
  | nil => rfl
  | cons a t =>
    cases e : (a :: t).getLast? with
    | none => simp at e
    | some y => rw [last_ok e, h y e, Bool.or_true]
theorem asc_last (o : Ord1 lt) {t : List α} {i : α} (ha : Asc lt t) (h : ∀ y, t.getLast? = some y → lt y i = true) : Asc lt (t ++ [i]) := by
  refine List.pairwise_append.mpr ⟨ha, by simp, fun a h1 b h2 => ?_⟩
  rw [List.mem_singleton.mp h2]
  rcases List.eq_nil_or_concat t with rfl | ⟨s, y, rfl⟩
  · cases h1
  · rw [List.concat_eq_append] at *
    have hy : lt y i = true := h y (by simp)
    rcases List.mem_append.mp h1 with h1 | h1
    · exact o.tr _ _ _ ((List.pairwise_append.mp ha).2.2 a h1 y (by simp)) hy
    · rw [List.mem_singleton.mp h1]; exact hy
theorem lv_mem (o : Ord1 lt) (items : List α) : ∀ (n : Nat) (t : List α), t ∈ lvU lt items n ↔ t.length = n ∧ Asc lt t ∧ ∀ x ∈ t, x ∈ items
  | 0, t => by
    unfold lvU
    rw [List.mem_singleton, List.length_eq_zero_iff]
    exact ⟨fun h => by subst h; exact ⟨rfl, by simp, by simp⟩, fun h => h.1⟩
  | n + 1, t => by
    unfold lvU
    rw [List.mem_flatMap]
    refine ⟨fun ⟨s, hs, ht⟩ => ?_, fun ⟨h1, h2, h3⟩ => ?_⟩
    · obtain ⟨s1, s2, s3⟩ := (lv_mem o items n s).mp hs
      obtain ⟨i, hi, hg⟩ := List.mem_filterMap.mp ht
      obtain ⟨rfl, hl⟩ := grow_some hg
      refine ⟨by rw [List.length_append, s1]; rfl, asc_last o s2 hl, fun x hx => ?_⟩
      rcases List.mem_append.mp hx with hx | hx
      · exact s3 x hx
      · rw [List.mem_singleton.mp hx]; exact hi
    · rcases List.eq_nil_or_concat t with rfl | ⟨s, y, rfl⟩
      · cases h1
      · rw [List.concat_eq_append] at *
        obtain ⟨p1, p2, p3⟩ := List.pairwise_append.mp h2
        refine ⟨s, (lv_mem o items n s).mpr ⟨?_, p1, fun x hx => h3 x (List.mem_append_left _ hx)⟩, List.mem_filterMap.mpr ⟨y, h3 y (by simp), grow_yes fun z hz => p3 z (List.mem_of_getLast? hz) y (by simp)⟩⟩
        rw [List.length_append] at h1
        simpa using h1
theorem lv_pw (o : Ord1 lt) {items : List α} (hi : Asc lt items) : ∀ n, (lvU lt items n).Pairwise (Lx lt)
  | 0 => by unfold lvU; simp
  | n + 1 => by
    unfold lvU
    refine List.pairwise_flatMap.mpr ⟨fun t _ => ?_, (lv_pw o hi n).imp fun {t u} h x hx y hy => ?_⟩
    · rw [List.pairwise_filterMap]
      refine hi.imp fun {i j} h x hx y hy => ?_
      obtain ⟨rfl, _⟩ := grow_some hx
      obtain ⟨rfl, _⟩ := grow_some hy
      exact lx_end t h
    · obtain ⟨i, _, hx⟩ := List.mem_filterMap.mp hx
      obtain ⟨j, _, hy⟩ := List.mem_filterMap.mp hy
      obtain ⟨rfl, _⟩ := grow_some hx
      obtain ⟨rfl, _⟩ := grow_some hy
      exact lx_app h _ _
theorem subs_mem (o : Ord1 lt) (items : List α) : ∀ (n : Nat) (t : List α), t ∈ subsU lt items n ↔ t.length ≤ n ∧ Asc lt t ∧ ∀ x ∈ t, x ∈ items
  | 0, t => by
    have := lv_mem o items 0 t
    unfold subsU
    unfold lvU at this
    rw [this]
    refine and_congr_left fun _ => ?_
    omega
  | n + 1, t => by
    unfold subsU
    rw [List.mem_append, subs_mem o items n, lv_mem o]
    refine ⟨fun h => ?_, fun ⟨h1, h2⟩ => ?_⟩
    · rcases h with ⟨h1, h2⟩ | ⟨h1, h2⟩
      · exact ⟨by omega, h2⟩
      · exact ⟨by omega, h2⟩
    · rcases Nat.lt_or_ge t.length (n + 1) with h | h
      · exact .inl ⟨by omega, h2⟩
      · exact .inr ⟨by omega, h2⟩
def SzLt (lt : α → α → Bool) (a b : List α) : Prop := a.length < b.length ∨ a.length = b.length ∧ Lx lt a b
theorem subs_pw (o : Ord1 lt) {items : List α} (hi : Asc lt items) : ∀ n, (subsU lt items n).Pairwise (SzLt lt)
  | 0 => by unfold subsU; simp
  | n + 1 => by
    unfold subsU
    refine List.pairwise_append.mpr ⟨subs_pw o hi n, ?_, fun a ha b hb => ?_⟩
    · refine List.Pairwise.imp_of_mem (fun {a b} ha hb h => ?_) (lv_pw o hi (n + 1))
      exact .inr ⟨by rw [((lv_mem o items _ _).mp ha).1, ((lv_mem o items _ _).mp hb).1], h⟩
    · have h1 := ((subs_mem o items _ _).mp ha).1
      have h2 := ((lv_mem o items _ _).mp hb).1
      exact .inl (by omega)
theorem subs_nd (o : Ord1 lt) {items : List α} (hi : Asc lt items) (n : Nat) : (subsU lt items n).Nodup := by
  refine (subs_pw o hi n).imp fun {a b} h e => ?_
  subst e
  rcases h with h | ⟨_, h⟩
  · omega
  · exact lx_ne (o := o) h rfl
theorem fm_len' {β γ : Type} (f : β → List γ) {m : Nat} (h : ∀ b, (f b).length ≤ m) : ∀ l : List β, (l.flatMap f).length ≤ l.length * m
  | [] => by simp
  | b :: l => by
    rw [List.flatMap_cons, List.length_append, List.length_cons, Nat.succ_mul]
    have := fm_len' f h l
    have := h b
    omega
theorem lv_len (items : List α) : ∀ n, (lvU lt items n).length ≤ items.length ^ n
  | 0 => by unfold lvU; simp
  | n + 1 => by
    unfold lvU
    refine Nat.le_trans (fm_len' _ (fun t => List.length_filterMap_le _ _) _) ?_
    rw [Nat.pow_succ]
    exact Nat.mul_le_mul_right _ (lv_len items n)
theorem lv_small {items : List α} (h : items.length ≤ 7) {n : Nat} (hn : n ≤ 7) : (lvU lt items n).length ≤ 823543 := by
  refine Nat.le_trans (lv_len items n) (Nat.le_trans (Nat.pow_le_pow_left h n) ?_)
  exact Nat.le_trans (Nat.pow_le_pow_right (by decide) hn) (by decide)
theorem subs_small {items : List α} (h : items.length ≤ 7) : ∀ {n : Nat}, n ≤ 7 → (subsU lt items n).length ≤ (n + 1) * 823543
  | 0, _ => by unfold subsU; simp
  | n + 1, hn => by
    unfold subsU
    rw [List.length_append]
    have := subs_small h (n := n) (by omega)
    have := lv_small (lt := lt) h (n := n + 1) hn
    omega
theorem sets_snoc (ns : List α) (n : α) : setsU (ns ++ [n]) = setsU ns ++ (setsU ns).map (· ++ [n]) := by
  unfold setsU
  rw [List.foldl_append]
  rfl
theorem snoc_ind {P : List α → Prop} (h0 : P []) (h : ∀ l x, P l → P (l ++ [x])) (l : List α) : P l := by
  have : ∀ n (l : List α), l.length = n → P l := by
    intro n
    induction n with
    | zero => intro l hl; rw [List.length_eq_zero_iff.mp hl]; exact h0
    | succ n ih =>
      intro l hl
      rcases List.eq_nil_or_concat l with rfl | ⟨s, y, rfl⟩
      · exact h0
      · rw [List.concat_eq_append] at *
        rw [List.length_append] at hl
        exact h _ _ (ih s (by simpa using hl))
  exact this _ l rfl
theorem sets_mem (o : Ord1 lt) (ns : List α) (hn : Asc lt ns) (t : List α) : t ∈ setsU ns ↔ Asc lt t ∧ ∀ x ∈ t, x ∈ ns := by
  revert t hn
  refine snoc_ind (P := fun ns => Asc lt ns → ∀ t, t ∈ setsU ns ↔ Asc lt t ∧ ∀ x ∈ t, x ∈ ns) (fun _ t => ?_) (fun ns n ih hn t => ?_) ns
  · show t ∈ [[]] ↔ _
    rw [List.mem_singleton]
    refine ⟨fun h => by subst h; simp, fun ⟨_, h⟩ => ?_⟩
    cases t with
    | nil => rfl
    | cons a t => cases h a List.mem_cons_self
  · obtain ⟨p1, p2, p3⟩ := List.pairwise_append.mp hn
    rw [sets_snoc, List.mem_append, ih p1]
    refine ⟨fun h => ?_, fun ⟨h1, h2⟩ => ?_⟩
    · rcases h with ⟨h1, h2⟩ | h
      · exact ⟨h1, fun x hx => List.mem_append_left _ (h2 x hx)⟩
      · obtain ⟨s, hs, rfl⟩ := List.mem_map.mp h
        obtain ⟨h1, h2⟩ := (ih p1 s).mp hs
        refine ⟨List.pairwise_append.mpr ⟨h1, by simp, fun a ha b hb => ?_⟩, fun x hx => ?_⟩
        · exact p3 a (h2 a ha) b hb
        · rcases List.mem_append.mp hx with hx | hx
          · exact List.mem_append_left _ (h2 x hx)
          · exact List.mem_append_right _ hx
    · rcases List.eq_nil_or_concat t with rfl | ⟨s, y, rfl⟩
      · exact .inl ⟨h1, by simp⟩
      · rw [List.concat_eq_append] at *
        obtain ⟨q1, q2, q3⟩ := List.pairwise_append.mp h1
        have hs : ∀ x ∈ s, x ∈ ns := by
          intro x hx
          rcases List.mem_append.mp (h2 x (List.mem_append_left _ hx)) with h | h
          · exact h
          · exfalso
            have hxn := List.mem_singleton.mp h
            subst hxn
            have hxy := q3 x hx y (by simp)
            rcases List.mem_append.mp (h2 y (by simp)) with h | h
            · have := o.tr _ _ _ hxy (p3 y h x (by simp))
              rw [o.ir] at this
              cases this
            · rw [List.mem_singleton.mp h, o.ir] at hxy
              cases hxy
        rcases List.mem_append.mp (h2 y (by simp)) with h | h
        · refine .inl ⟨h1, fun x hx => ?_⟩
          rcases List.mem_append.mp hx with hx | hx
          · exact hs x hx
          · rw [List.mem_singleton.mp hx]; exact h
        · rw [List.mem_singleton.mp h]
          exact .inr (List.mem_map.mpr ⟨s, (ih p1 s).mpr ⟨q1, hs⟩, rfl⟩)
theorem sets_len (ns : List α) : (setsU ns).length = 2 ^ ns.length := by
  refine snoc_ind (P := fun ns => (setsU ns).length = 2 ^ ns.length) rfl (fun ns n ih => ?_) ns
  rw [sets_snoc, List.length_append, List.length_map, ih, List.length_append, List.length_singleton, Nat.pow_succ]
  omega
theorem asc_len (o : Ord1 lt) : ∀ {t ns : List α}, Asc lt t → (∀ x ∈ t, x ∈ ns) → t.length ≤ ns.length := by
  intro t ns ht h
  have hnd : t.Nodup := ht.imp fun {a b} k e => by subst e; rw [o.ir] at k; cases k
  exact hnd.length_le_of_subset h
variable (enc : α → PyData)
structure EncOk (lt : α → α → Bool) (enc : α → PyData) : Prop where
  al : ∀ x y, PySem.W.alike (enc x) (enc y) = true
  lt : ∀ x y, lt x y = true → PySem.W.dataLt (enc x) (enc y) = true ∧ PyData.eqv (enc x) (enc y) = false
  eq : ∀ x, PyData.eqv (enc x) (enc x) = true
  tk : ∃ f : α → Int ⊕ List Nat, (∀ x, PySem.W.keyToks (enc x) = [f x]) ∧ ∀ x y, f x = f y → x = y
  dp : ∀ x, (enc x).depth = 0
variable {enc}
theorem al_all (E : EncOk lt enc) : ∀ a b : List α, PySem.W.alikeAll (a.map enc) (b.map enc) = true
  | [], _ => by simp [PySem.W.alikeAll]
  | _ :: _, [] => by simp [PySem.W.alikeAll]
  | x :: a, y :: b => by
    rw [List.map_cons, List.map_cons, PySem.W.alikeAll, al_all E a b, E.al]
    rfl
theorem dp_all (E : EncOk lt enc) : ∀ a : List α, PyData.depthAll (a.map enc) = 0
  | [] => by simp [PyData.depthAll]
  | x :: a => by rw [List.map_cons, PyData.depthAll, dp_all E a, E.dp]; rfl
end
def strLt (a b : Str) : Bool := decide (a.cps.toList < b.cps.toList)
theorem str_ord : Ord1 strLt where
  tr := fun a b c h k => by
    unfold strLt at *
    exact decide_eq_true (List.lt_trans (of_decide_eq_true h) (of_decide_eq_true k))
  ir := fun a => by
    unfold strLt
    exact decide_eq_false (List.lt_irrefl _)
theorem str_enc : EncOk strLt PyData.str where
  al := fun x y => by simp [PySem.W.alike]
  lt := fun x y h => by
    rw [PySem.W.dataLt_str]
    refine ⟨h, ?_⟩
    simp only [PyData.eqv]
    refine decide_eq_false fun e => ?_
    subst e
    rw [str_ord.ir] at h
    cases h
  eq := fun x => by simp [PyData.eqv]
  tk := ⟨fun x => .inr x.cps.toList, fun x => by simp [PySem.W.keyToks], fun x y h => str_ext (by simpa using h)⟩
  dp := fun x => by simp [PyData.depth]
def nsD (t : List Str) : Dt := .tup (t.map .str)
theorem ns_of (t : List Str) : PyOf (nsD t) (.tuple (t.map .str)) := by
  refine .tup ?_
  induction t with
  | nil => exact .nil
  | cons a t ih => exact .cons (.str _) ih
abbrev ascN (t : List Str) : Prop := Asc strLt t
theorem asc_names {l : Lst} (hl : LOk l) : ascN (l.map (·.1)) := hl.nd.imp fun {a b} h => decide_eq_true h
end SP
namespace DD
open PySem PySem.Spec PyProof.Rows L2
end DD
namespace SP
open PySem PySem.Spec PyProof.Rows L2 DD
abbrev subsN (ns : List Str) (n : Nat) : List (List Str) := subsU strLt ns n
def ctSubsets : Ct := fun ss st ok _ => ∃ (ns : List Str) (n : Nat), ss = [.dat (nsD ns), dI (n : Int)] ∧ ns.length ≤ 7 ∧ n ≤ 7 ∧ ok (.dat (.lst ((subsN ns n).map nsD))) st
@[irreducible] def ctLen (c : Cl) : Ct := fun ss st ok _ => ∃ l : Lst, ss = [.dat (lstD c l)] ∧ ok (dI (l.length : Nat)) st
theorem ctLen_eq (c : Cl) {ss : List Sv} {st : Store} {ok : OK} {ex : EK} : ctLen c ss st ok ex = ∃ l : Lst, ss = [.dat (lstD c l)] ∧ ok (dI (l.length : Nat)) st := by unfold ctLen; rfl
def subL (l : Lst) (t : List Str) : Lst := t.filterMap fun n => (look l n).map fun s => (n, s)
structure In (l : Lst) (t : List Str) : Prop where
  asc : ascN t
  mem : ∀ n ∈ t, n ∈ l.map (·.1)
@[irreducible] def ctOnly (c : Cl) : Ct := fun ss st ok _ => ∃ (l : Lst) (t : List Str), ss = [.dat (lstD c l), .dat (nsD t)] ∧ LOk l ∧ In l t ∧ ok (.dat (lstD c (subL l t))) st
theorem ctOnly_eq (c : Cl) {ss : List Sv} {st : Store} {ok : OK} {ex : EK} : ctOnly c ss st ok ex = ∃ (l : Lst) (t : List Str), ss = [.dat (lstD c l), .dat (nsD t)] ∧ LOk l ∧ In l t ∧ ok (.dat (lstD c (subL l t))) st := by unfold ctOnly; rfl
theorem In.look {l : Lst} (hl : LOk l) {t : List Str} (h : In l t) {n : Str} (hn : n ∈ t) : ∃ s, (n, s) ∈ l ∧ SP.look l n = some s := by
  obtain ⟨⟨m, s⟩, hx, rfl⟩ := List.mem_map.mp (h.mem n hn)
  exact ⟨s, hx, hl.get hx⟩
theorem sub_keys {l : Lst} (hl : LOk l) : ∀ {t : List Str}, In l t → (subL l t).map (·.1) = t
  | [], _ => rfl
  | n :: t, h => by
    obtain ⟨s, _, hs⟩ := h.look hl (n := n) List.mem_cons_self
    have ih := sub_keys hl (t := t) ⟨(List.pairwise_cons.mp h.asc).2, fun x hx => h.mem x (List.mem_cons_of_mem _ hx)⟩
    unfold subL at ih ⊢
    rw [List.filterMap_cons, hs]
    show n :: _ = _
    rw [ih]
theorem sub_mem {l : Lst} (hl : LOk l) {t : List Str} {x : Str × Snd} (hx : x ∈ subL l t) : x ∈ l ∧ x.1 ∈ t := by
  unfold subL at hx
  obtain ⟨n, hn, h⟩ := List.mem_filterMap.mp hx
  cases hs : look l n with
  | none => rw [hs] at h; cases h
  | some s =>
    rw [hs] at h
    cases h
    refine ⟨?_, hn⟩
    unfold look at hs
    cases hf : l.find? fun x => decide (x.1 = n) with
    | none => rw [hf] at hs; cases hs
    | some y =>
      rw [hf] at hs
      cases hs
      have h1 := List.find?_some hf
      have h2 := List.mem_of_find?_eq_some hf
      rw [← of_decide_eq_true h1]
      exact h2
theorem sub_len {l : Lst} (hl : LOk l) {t : List Str} (h : In l t) : (subL l t).length = t.length := by
  have := congrArg List.length (sub_keys hl h)
  rwa [List.length_map] at this
theorem in_len {l : Lst} {t : List Str} (h : In l t) : t.length ≤ l.length := by
  have := asc_len str_ord h.asc h.mem
  rwa [List.length_map] at this
theorem sub_ok {l : Lst} (hl : LOk l) {t : List Str} (h : In l t) : LOk (subL l t) where
  len := by rw [sub_len hl h]; exact Nat.le_trans (in_len h) hl.len
  nd := by
    rw [sub_keys hl h]
    exact h.asc.imp fun {a b} k => of_decide_eq_true k
  ok := fun x hx => hl.ok x (sub_mem hl hx).1
theorem in_of {l : Lst} (hl : LOk l) {n : Nat} {t : List Str} (h : t ∈ subsN (l.map (·.1)) n) : In l t := by
  obtain ⟨_, h2, h3⟩ := (subs_mem str_ord _ _ _).mp h
  exact ⟨h2, h3⟩
theorem own_names2 (b : Bk) (l : Lst) (k : Nat) : (ownPlan b l k).map (·.1) = sortN ((taken b l k).map (·.1)) := by
  unfold ownPlan asc
  rw [List.map_map]
  exact List.map_id _
theorem own_nd2 {b : Bk} {l : Lst} (hl : LOk l) (k : Nat) : ((ownPlan b l k).map (·.1)).Nodup := by
  rw [own_names2]
  exact (sortN_perm _).nodup_iff.mpr ((taken_inv hl k).ok hl (wishes_len hl)).1.nd
def kiI (p : Plan) : List (Key × Int) := p.map fun x => (.inr x.1, x.2)
theorem look_ki (p : Plan) (n : Str) : lookI (kiI p) (.inr n) = look p n := by
  unfold lookI look kiI
  induction p with
  | nil => rfl
  | cons a p ih =>
    rw [List.map_cons, List.find?_cons, List.find?_cons]
    have e : decide ((Sum.inr a.1 : Key) = Sum.inr n) = decide (a.1 = n) := by simp
    rw [e]
    cases decide (a.1 = n) with
    | true => rfl
    | false => exact ih
theorem look_in {α : Type} {p : List (Str × α)} {n : Str} {x : α} (h : look p n = some x) : (n, x) ∈ p := by
  unfold look at h
  cases hf : p.find? fun x => decide (x.1 = n) with
  | none => rw [hf] at h; cases h
  | some y =>
    rw [hf] at h
    cases h
    have h1 := List.find?_some hf
    have h2 := List.mem_of_find?_eq_some hf
    rw [← of_decide_eq_true h1]
    exact h2
theorem eq_plans {p q : Plan} (hp : (p.map (·.1)).Nodup) (hq : (q.map (·.1)).Nodup) (sp : (p.map (·.1)).Pairwise fun a b => strLe a b = true) (sq : (q.map (·.1)).Pairwise fun a b => strLe a b = true) : eqDI (kiI p) (kiI q) = decide (p = q) := by
  by_cases e : p = q
  · subst e
    rw [decide_eq_true rfl]
    unfold eqDI
    rw [Bool.and_eq_true, beq_self_eq_true]
    refine ⟨rfl, List.all_eq_true.mpr fun x hx => decide_eq_true ?_⟩
    unfold kiI at hx
    obtain ⟨y, hy, rfl⟩ := List.mem_map.mp hx
    dsimp only
    rw [look_ki]
    exact look_mem hp hy
  · rw [decide_eq_false e]
    refine Bool.eq_false_iff.mpr fun h => e ?_
    unfold eqDI at h
    rw [Bool.and_eq_true] at h
    have hl : p.length = q.length := by
      have := eq_of_beq h.1
      unfold kiI at this
      rwa [List.length_map, List.length_map] at this
    have ha := List.all_eq_true.mp h.2
    have hsub : ∀ x ∈ p, x ∈ q := by
      intro x hx
      have h1 := of_decide_eq_true (ha (.inr x.1, x.2) (by unfold kiI; exact List.mem_map.mpr ⟨x, hx, rfl⟩))
      dsimp only at h1
      rw [look_ki] at h1
      exact look_in h1
    have np : p.Nodup := (List.pairwise_map.mp hp).imp fun {a b} h e => h (by rw [e])
    have nq : q.Nodup := (List.pairwise_map.mp hq).imp fun {a b} h e => h (by rw [e])
    have hpm : p.Perm q := by
      refine (List.perm_ext_iff_of_nodup np nq).mpr fun y => ⟨hsub y, fun hy => ?_⟩
      by_cases hm : y ∈ p
      · exact hm
      · have := (List.nodup_cons.mpr ⟨hm, np⟩).length_le_of_subset (l₂ := q) (fun z hz => by
          rcases List.mem_cons.mp hz with rfl | hz
          · exact hy
          · exact hsub z hz)
        rw [List.length_cons] at this
        omega
    refine List.Perm.eq_of_pairwise (le := fun a b => strLe a.1 b.1 = true) (fun a b h1 h2 h3 h4 => ?_) (List.pairwise_map.mp sp) (List.pairwise_map.mp sq) hpm
    have e1 := strLe_anti _ _ h3 h4
    have h5 := look_mem hq (hsub a h1)
    have h6 := look_mem hq h2
    rw [e1, h6] at h5
    exact Prod.ext e1 (Option.some.inj h5).symm
theorem own_eq {b b' : Bk} {l l' : Lst} (hl : LOk l) (hl' : LOk l') (k k' : Nat) : eqDI (kiI (ownPlan b l k)) (kiI (ownPlan b' l' k')) = decide (ownPlan b l k = ownPlan b' l' k') := by
  refine eq_plans (own_nd2 hl k) (own_nd2 hl' k') ?_ ?_
  · rw [own_names2]; exact sortN_pw _
  · rw [own_names2]; exact sortN_pw _
def differs (b b' : Bk) (l : Lst) (k : Nat) (t : List Str) : Bool := !decide (ownPlan b (subL l t) k = ownPlan b' (subL l t) k)
def leastDiff (b b' : Bk) (l : Lst) (k : Nat) : Option (List Str) := (subsN (l.map (·.1)) l.length).find? (differs b b' l k)
def optN : Option (List Str) → Dt
  | some t => nsD t
  | none => .non
def ctDiff (c : Cl) (I : Addr) : Ct := fun ss st ok ex => (∃ (b b' : Bk) (l : Lst) (k : Nat), ss = [.dat (b.d c), .dat (b'.d c), .dat (lstD c l), dI (k : Int)] ∧ BOk b ∧ BOk b' ∧ LOk l ∧ l.length ≤ 7 ∧ 1 ≤ k ∧ k ≤ 10 ∧ ok (.dat (optN (leastDiff b b' l k))) st) ∨
  ∃ (b b' : Bk) (l : Lst) (d : Dt), ss = [.dat (b.d c), .dat (b'.d c), .dat (lstD c l), .dat d] ∧ LOk l ∧ l.length ≤ 7 ∧ OddK d ∧ ex ⟨I, []⟩ st
theorem subs_head (items : List Str) : ∀ n, ∃ r, subsN items n = [] :: r
  | 0 => ⟨[], rfl⟩
  | n + 1 => by
    obtain ⟨r, hr⟩ := subs_head items n
    exact ⟨r ++ lvU strLt items (n + 1), by show subsU strLt items n ++ _ = _; rw [show subsU strLt items n = [] :: r from hr]; rfl⟩
theorem allD_map (ds : List Dt) : allD? (ds.map Sv.dat) = some ds := by
  induction ds with
  | nil => rfl
  | cons d ds ih =>
    rw [List.map_cons]
    show (allD? (ds.map Sv.dat)).map (d :: ·) = _
    rw [ih]
    rfl
theorem atI_end {α : Type} (xs : List α) (x : α) : atI (xs ++ [x]) (-1) = some x := by
  have e : ixN (xs ++ [x]).length (-1) = some xs.length := by
    rw [List.length_append, List.length_singleton]
    unfold ixN
    split
    · omega
    · split
      · congr 1; omega
      · omega
  unfold atI
  rw [e]
  simp
theorem all_at {xs : List Sv} {ds : List Dt} {F : List Dt → Prop} (h : allD? xs = some ds) (k : F ds) : match allD? xs with
    | some ds => F ds
    | none => False := by
  rw [h]
  exact k
theorem j2_len {α β : Type} {as : List α} {bs : α → List β} {f : α → β → Option Dt} {st st' : Store} {i j : Nat} {a : α} {acc : List Sv} (ha : as[i]? = some a) (h : J2i as bs f st i a j acc st') : acc.length ≤ (as.flatMap fun a => (bs a).filterMap (f a)).length := by
  obtain ⟨hi, rfl⟩ := List.getElem?_eq_some_iff.mp ha
  rw [h.2]
  have e : as = as.take i ++ as[i] :: as.drop (i + 1) := by
    rw [List.getElem_cons_drop, List.take_append_drop]
  have e2 : (as.flatMap fun a => (bs a).filterMap (f a)).length = ((as.take i ++ as[i] :: as.drop (i + 1)).flatMap fun a => (bs a).filterMap (f a)).length := by rw [← e]
  rw [e2, List.flatMap_append, List.flatMap_cons]
  have h3 := ((List.take_sublist j (bs as[i])).filterMap (f as[i])).length_le
  simp only [List.length_map, List.length_append] at *
  omega
theorem lv_next (ns : List Str) (m : Nat) : ((lvU strLt ns m).flatMap fun t => ns.filterMap fun i => (growF strLt t i).map nsD) = (lvU strLt ns (m + 1)).map nsD := by
  show _ = ((lvU strLt ns m).flatMap fun t => ns.filterMap (growF strLt t)).map nsD
  rw [List.map_flatMap]
  congr 1
  funext t
  rw [List.map_filterMap]
end SP
namespace SP
open PySem PySem.Spec PyProof.Rows L2 DD
end SP
namespace SP
open PySem PySem.Spec PyProof.Rows L2 DD
end SP
namespace UU
open PySem PySem.Spec PyProof.Rows L2 DD
section
variable {P : Program} {w : World} {A : Around} {E : Value → Shared → Prop} {s : Shared}
abbrev TupAt (P : Program) (w : World) (h : Heap) (k : List Key) (b : Addr) : Prop := IsTupleKey (mixKind P w) h k b
abbrev tkh (P : Program) (w : World) (k : List Key) : Int := tupleKeyHash (mixKind P w) k
theorem item_shape {k : List Key} {vs : List Value} (h : ItemsAre (mixKind P w) k vs) : ∀ v ∈ vs, ∀ n, ofAClassStatement n v = pure false ∧ ∃ r, hashByValue n v = pure r := by
  induction h with
  | nil => intro v hv; cases hv
  | cons h1 _ ih =>
    intro v hv n
    rcases List.mem_cons.mp hv with rfl | hv
    · rcases keyIs_shape h1 with ⟨i, u, rfl, rfl⟩ | ⟨x, u, rfl, rfl⟩
      · exact ⟨by cases n <;> rfl, true, by cases n <;> rfl⟩
      · exact ⟨by cases n <;> rfl, false, by cases n <;> rfl⟩
    · exact ih v hv n
theorem no_class {k : List Key} {b : Addr} {Q : Bool → Shared → Prop} (x : TupAt P w s.heap k b) (q : Q false s) : wpAny (model P w) A (ofAClassStatement 8 (.ref b)) Q E s := by
  have ty := x.typeIs
  obtain ⟨o, us, n, ho, _, hd, hi⟩ := x
  have sh := item_shape hi
  unfold ofAClassStatement
  refine wpAny_bind (wpAny_typeOf ty ?_)
  dsimp only
  have e : (("tuple" : String) == "tuple") = true := by decide
  simp only [e, if_true, Bool.not_true, Bool.false_eq_true, if_false]
  try refine wpAny_bind (wpAny_pure ?_)
  try simp only [Bool.not_true, Bool.false_eq_true, if_false]
  show wpAny _ _ (seqItems? (.ref b) >>= _) _ _ s
  refine wpAny_bind (wpAny_seqItems ho hd ?_)
  dsimp only
  refine wpAny_bind ?_
  show wpAny _ _ (forIn us _ _) _ _ s
  rw [← Array.forIn_toList]
  have inv0 : (none : Option Bool) = none ∧ s = s ∧ ∀ v ∈ us.toList, ofAClassStatement 7 v = pure false := ⟨rfl, rfl, fun v hv => (sh v hv 7).1⟩
  refine wpAny_forIn_list _ (fun left acc s1 => acc.1 = none ∧ s1 = s ∧ ∀ v ∈ left, ofAClassStatement 7 v = pure false) _ ?_ ?_ _ _ inv0
  · rintro v left acc s1 ⟨ha, rfl, hl⟩
    rw [hl v List.mem_cons_self]
    refine wpAny_bind (wpAny_pure ?_)
    simp only [Bool.false_eq_true, if_false]
    exact wpAny_pure ⟨rfl, rfl, fun u hu => hl u (List.mem_cons_of_mem _ hu)⟩
  · rintro ⟨a1, a2⟩ s1 ⟨ha, rfl, -⟩
    have ha : a1 = none := ha
    subst ha
    exact wpAny_pure q
theorem some_hash {k : List Key} {b : Addr} {Q : Bool → Shared → Prop} (x : TupAt P w s.heap k b) (q : ∀ r, Q r s) : wpAny (model P w) A (hashByValue 8 (.ref b)) Q E s := by
  have ty := x.typeIs
  obtain ⟨o, us, n, ho, _, hd, hi⟩ := x
  have sh := item_shape hi
  unfold hashByValue
  refine wpAny_bind (wpAny_specialOf ty F.slot_tuple_hash.lookup ?_)
  show wpAny _ _ (seqItems? (.ref b) >>= _) _ _ s
  refine wpAny_bind (wpAny_seqItems ho hd ?_)
  refine wpAny_bind ?_
  show wpAny _ _ (forIn us _ _) _ _ s
  rw [← Array.forIn_toList]
  refine wpAny_forIn_list _ (fun left acc s1 => s1 = s ∧ ∀ v ∈ left, ∃ r, hashByValue 7 v = pure r) _ ?_ ?_ _ _ ⟨rfl, fun v hv => (sh v hv 7).2⟩
  · rintro v left acc s1 ⟨rfl, hl⟩
    obtain ⟨r, e⟩ := hl v List.mem_cons_self
    rw [e]
    refine wpAny_bind (wpAny_pure ?_)
    cases r with
    | true =>
      simp only [Bool.not_true, Bool.false_eq_true, if_false]
      exact wpAny_pure ⟨rfl, fun u hu => hl u (List.mem_cons_of_mem _ hu)⟩
    | false =>
      simp only [Bool.not_false, if_true]
      refine wpAny_pure ?_
      exact wpAny_pure (q false)
  · rintro ⟨a1, a2⟩ s1 ⟨rfl, -⟩
    cases a1 with
    | none => exact wpAny_pure (q true)
    | some r => exact wpAny_pure (q r)
/-- nobody sees the search -/
theorem unseen {k : List Key} {b : Addr} {Q : Bool → Shared → Prop} (x : TupAt P w s.heap k b) {ys : List Value} (hy : ∀ y ∈ ys, ∃ k' c, y = Value.ref c ∧ TupAt P w s.heap k' c) (q : Q false s) :
    wpAny (model P w) A (searchCouldBeSeen (.ref b) ys) Q E s := by
  unfold searchCouldBeSeen
  refine wpAny_bind (wpAny_forIn_list _ (fun left acc s1 => acc.1 = none ∧ s1 = s ∧ ∀ y ∈ left, ∃ k' c, y = Value.ref c ∧ TupAt P w s.heap k' c) _ ?_ ?_ _ _ ⟨rfl, rfl, hy⟩)
  · rintro v left acc s1 ⟨ha, rfl, hl⟩
    obtain ⟨k', c, rfl, hc⟩ := hl v List.mem_cons_self
    have more : ∀ y ∈ left, ∃ k' c, y = Value.ref c ∧ TupAt P w s1.heap k' c := fun y h => hl y (List.mem_cons_of_mem _ h)
    dsimp only
    rcases Bool.eq_false_or_eq_true (b == c || (carriedByValue (.ref b) && carriedByValue (.ref c))) with e | e
    · exact wp_if_pos e (wpAny_pure ⟨rfl, rfl, more⟩)
    · refine wp_if_neg (by rw [e]; decide) ?_
      refine wpAny_bind (wpAny_eqIsQuiet_tuple x ?_)
      simp only [Bool.not_true, Bool.false_eq_true, if_false]
      refine wpAny_bind (wpAny_eqIsQuiet_tuple hc ?_)
      simp only [Bool.not_true, Bool.false_eq_true, if_false]
      refine wpAny_bind (no_class x ?_)
      simp only [Bool.false_eq_true, if_false]
      refine wpAny_bind (no_class hc ?_)
      simp only [Bool.false_eq_true, if_false]
      exact wpAny_pure ⟨rfl, rfl, more⟩
  · rintro ⟨a1, a2⟩ s1 ⟨ha, rfl, -⟩
    have ha : a1 = none := ha
    subst ha
    exact wpAny_pure q
def Ent (P : Program) (w : World) (Z : List Key → Addr → Prop) (h : Heap) (k : List Key) (e : Int × Value) : Prop := ∃ b, e = (tkh P w k, .ref b) ∧ TupAt P w h k b ∧ Z k b
structure Rws (P : Program) (w : World) (Z : List Key → Addr → Prop) (h : Heap) (a : Addr) (ks : List (List Key)) (es : Array (Int × Value)) (ep : Nat) (t : SetTable) : Prop where
  obj : ∃ o, h.get? a = some o ∧ o.ExactSet ∧ o.data = .set es ep t
  ent : Paired (Ent P w Z h) ks es.toList
  tab : TabOk t (ks.map (tkh P w))
  nd : ks.Nodup
  room : ks.length * 5 < t.mask * 3
  few : ks.length < 64
variable {Z : List Key → Addr → Prop} {a : Addr} {ks : List (List Key)} {es : Array (Int × Value)} {ep : Nat} {t : SetTable}
theorem ents_size {h : Heap} (r : Paired (Ent P w Z h) ks es.toList) : es.size = ks.length := by
  rw [paired_len r, Array.length_toList]
theorem fits_of {n m : Nat} (hd : t.dummies = #[]) (hp : t.place.size = n) (hm : n ≤ t.mask) : t.fits n = true := by
  unfold SetTable.fits SetTable.fill
  rw [hd, Bool.and_eq_true, beq_iff_eq, decide_eq_true_eq]
  show t.place.size = n ∧ t.place.size + 0 ≤ t.mask
  omega
theorem Rws.pl (R : Rws P w Z s.heap a ks es ep t) : t.place.size = ks.length := by
  rw [R.tab.sz, List.length_map]
theorem Rws.fits (R : Rws P w Z s.heap a ks es ep t) : t.fits es.size = true := by
  have := R.room
  have := ents_size R.ent
  exact fits_of (m := 0) R.tab.dm (by rw [R.pl]; omega) (by omega)
theorem Rws.at (R : Rws P w Z s.heap a ks es ep t) {i : Nat} {k : List Key} (h : ks[i]? = some k) : ∃ b, es[i]? = some (tkh P w k, .ref b) ∧ TupAt P w s.heap k b := by
  obtain ⟨e, he, b, rfl, hb⟩ := DD.paired_at R.ent h
  exact ⟨b, by rw [← Array.getElem?_toList]; exact he, hb.1⟩
theorem Rws.back (R : Rws P w Z s.heap a ks es ep t) {i j : Nat} (h : t.place.toList[i]? = some j) : ∃ k, ks[i]? = some k := by
  have h1 : i < t.place.toList.length := (List.getElem?_eq_some_iff.mp h).1
  rw [Array.length_toList, R.pl] at h1
  exact ⟨ks[i], List.getElem?_eq_getElem h1⟩
/-- the i-th probe of the way of k -/
abbrev stp (t : SetTable) (h : Int) (c : Nat) : SetTable.Probe := nth t.mask (runAt t.mask (SetTable.bits h % (t.mask + 1)) (SetTable.bits h)) c
theorem stp_dummy (t : SetTable) (h : Int) (c : Nat) : (stp t h c).dummy = none := by
  have go : ∀ (n : Nat) (p : SetTable.Probe), p.dummy = none → (nth t.mask p n).dummy = none := by
    intro n
    induction n with
    | zero => exact fun p e => e
    | succ n ih =>
      intro p e
      refine ih (adv t.mask p) ?_
      unfold adv
      split <;> exact e
  exact go c _ rfl
theorem stp_add (t : SetTable) (h : Int) (c q : Nat) : nth t.mask (stp t h c) q = stp t h (c + q) := (nth_add t.mask c _ q).symm
/-- k was not passed on the first c steps of its way -/
def Fresh (P : Program) (w : World) (ks : List (List Key)) (t : SetTable) (k : List Key) (c : Nat) : Prop := ∀ i : Nat, ks[i]? = some k → ∀ c' : Nat, c' < c → t.place.toList[i]? ≠ some (way t.mask (tkh P w k) c')
theorem look_for (R : Rws P w Z s.heap a ks es ep t) {x : Addr} {k : List Key} (hx : TupAt P w s.heap k x) (hu : A.units < cLine) {K : Nat} (hKf : K < 10 * SetTable.turns t.mask)
    (hK : way t.mask (tkh P w k) K ∉ t.place.toList) (hKb : ∀ c, c < K → way t.mask (tkh P w k) c ∈ t.place.toList) {Q : SetFound → Shared → Prop}
    (yes : k ∈ ks → Q (.there none) s) (no : k ∉ ks → Q (.free (way t.mask (tkh P w k) K) false) s) (fuel c : Nat) (stand : Option SetTable.Probe) (hst : stand.getD (t.probeStart (tkh P w k)) = stp t (tkh P w k) c) (hc : c ≤ K) (hf : K - c < fuel) (fr : Fresh P w ks t k c) :
    wpAny (model P w) A (setSearchFrom a (.ref x) (tkh P w k) true fuel stand) Q E s := by
  induction fuel generalizing c stand with
  | zero => exact absurd hf (Nat.not_lt_zero _)
  | succ fuel ih =>
    obtain ⟨o, ho, hex, hd⟩ := R.obj
    have gw : ¬ t.gaveWay = true := by
      unfold SetTable.gaveWay
      rw [mask_odd R.tab.mok]
      decide
    rw [setSearchFrom_succ]
    refine wpAny_bind (wpAny_setState_of ho hd R.fits ?_)
    dsimp only
    refine wp_if_neg gw ?_
    try refine wpAny_bind (wpAny_pure ?_)
    have hashes : ∀ (i : Nat) (k' : List Key), ks[i]? = some k' → (es[i]?.map fun e => e.1).getD 0 = tkh P w k' := fun i k' hi => by
      obtain ⟨b, e, _⟩ := R.at hi
      rw [e]
      rfl
    have wj : ∀ q, (nth t.mask (stp t (tkh P w k) c) q).j = way t.mask (tkh P w k) (c + q) := fun q => by rw [stp_add]
    have spec := go_spec t R.tab.ris R.tab.dm (fun i => (es[i]?.map (·.1)).getD 0) (tkh P w k) (10 * SetTable.turns t.mask) (K - c) (stp t (tkh P w k) c) (stp_dummy t _ c) (by omega)
      (fun q hq => by rw [wj]; exact hKb (c + q) (by omega)) (by rw [wj, Nat.add_sub_cancel' hc]; exact hK)
    rcases spec with ⟨q, i, hq, hi, _, miss, pr⟩ | ⟨miss, pr⟩
    · rw [wj] at hi pr
      rw [stp_add] at pr
      have pr' : t.probe (fun i => (es[i]?.map (·.1)).getD 0) (tkh P w k) (stand.getD (t.probeStart (tkh P w k))) = some (.candidate (way t.mask (tkh P w k) (c + q)) i (stp t (tkh P w k) (c + (q + 1)))) := by
        rw [hst]
        exact pr
      rw [pr']
      dsimp only
      obtain ⟨k2, hk2⟩ := R.back hi
      obtain ⟨b, he, hb⟩ := R.at hk2
      have cmp : wpAny (model P w) A (searchRest a (.ref x) (tkh P w k) true fuel es t (way t.mask (tkh P w k) (c + q)) i (stp t (tkh P w k) (c + (q + 1)))) Q E s := by
        unfold searchRest
        rw [he]
        dsimp only
        refine wpAny_bind (wpAny_holding (wpAny_eqBool_tuple hu hb hx ?_))
        refine wpAny_bind (wpAny_setState_of ho hd R.fits ?_)
        dsimp only
        by_cases same : k2 = k
        · subst same
          refine wp_if_pos (by simp) (wpAny_pure (yes (List.mem_of_getElem? hk2)))
        · refine wp_if_neg (by simp [same]) ?_
          try refine wpAny_bind (wpAny_pure ?_)
          have sl : t.slot (way t.mask (tkh P w k) (c + q)) = .live i := slot_live R.tab.ris hi
          rw [sameMem]
          dsimp only
          simp only [if_true, sl, he]
          refine wpAny_bind (wpAny_isSame_ref_self (wpAny_bind (wpAny_pure ?_)))
          simp only [if_true]
          refine wp_if_neg (by simp [same]) ?_
          refine ih (c + (q + 1)) _ rfl (by omega) (by omega) fun i0 h0 c' hc' z => ?_
          rcases Nat.lt_or_ge c' c with h1 | h1
          · exact fr i0 h0 c' h1 z
          · rcases Nat.lt_or_ge (c' - c) q with h2 | h2
            · refine miss (c' - c) i0 h2 ?_ (hashes i0 k h0)
              rw [wj, Nat.add_sub_cancel' h1]
              exact z
            · have e : c' = c + q := by omega
              subst e
              have s0 := slot_live R.tab.ris z
              rw [sl] at s0
              injection s0 with s0
              subst s0
              rw [hk2] at h0
              exact same (Option.some.inj h0)
      rcases Bool.eq_false_or_eq_true t.led with hl | hl
      · refine wp_if_neg (by simp [hl]) ?_
        try refine wpAny_bind (wpAny_pure ?_)
        exact cmp
      · refine wp_if_pos (by simp [hl]) ?_
        refine wpAny_bind (unseen hx (fun y hy => ?_) ?_)
        · obtain ⟨e, he1, rfl⟩ := List.mem_map.mp hy
          have he2 : e ∈ es.toList := by
            have := he1
            simp only [Array.mem_toList_iff, Array.mem_filter] at this ⊢
            exact this.1
          obtain ⟨n, hn⟩ := List.getElem?_of_mem he2
          obtain ⟨k3, _, b3, rfl, hb3⟩ := DD.paired_back R.ent hn
          exact ⟨k3, b3, rfl, hb3.1⟩
        · refine wp_if_neg (by decide) ?_
          try refine wpAny_bind (wpAny_pure ?_)
          exact cmp
    · rw [wj, Nat.add_sub_cancel' hc] at pr
      have pr' : t.probe (fun i => (es[i]?.map (·.1)).getD 0) (tkh P w k) (stand.getD (t.probeStart (tkh P w k))) = some (.empty (way t.mask (tkh P w k) K) none) := by
        rw [hst]
        exact pr
      rw [pr']
      dsimp only
      refine wpAny_pure (no fun hm => ?_)
      obtain ⟨i0, h0⟩ := List.getElem?_of_mem hm
      have hil : i0 < t.place.toList.length := by
        have := (List.getElem?_eq_some_iff.mp h0).1
        rw [Array.length_toList, R.pl]
        exact this
      have hj := List.getElem?_eq_getElem hil
      obtain ⟨c', c1, c2⟩ := R.tab.before hK (show (ks.map (tkh P w))[i0]? = some (tkh P w k) by rw [List.getElem?_map, h0]; rfl) hj
      rw [← c2] at hj
      rcases Nat.lt_or_ge c' c with h1 | h1
      · exact fr i0 h0 c' h1 hj
      · refine miss (c' - c) i0 (by omega) ?_ (hashes i0 k h0)
        rw [wj, Nat.add_sub_cancel' h1]
        exact hj
end
end UU
namespace UU
open PySem PySem.Spec PyProof.Rows L2 DD
section
variable {P : Program} {w : World} {A : Around} {E : Value → Shared → Prop} {s : Shared}
theorem tup_stays {h h' : Heap} {k : List Key} {a b : Addr} {o : Obj} {es : Array (Int × Value)} {ep : Nat} {t : SetTable} (x : TupAt P w h k b) (ho : h.get? a = some o) (hd : o.data = .set es ep t) (sb : Heap.SameBut a h h') : TupAt P w h' k b := by
  obtain ⟨ob, us, n, h1, h2, h3, h4⟩ := x
  refine ⟨ob, us, n, (sb.2 b fun e => ?_).trans h1, h2, h3, h4⟩
  subst e
  rw [ho] at h1
  cases h1
  rw [hd] at h3
  cases h3
theorem ent_stays {Z : List Key → Addr → Prop} {h h' : Heap} {a : Addr} {o : Obj} {es : Array (Int × Value)} {ep : Nat} {t : SetTable} (ho : h.get? a = some o) (hd : o.data = .set es ep t) (sb : Heap.SameBut a h h') {ks : List (List Key)} {l : List (Int × Value)} (r : Paired (Ent P w Z h) ks l) : Paired (Ent P w Z h') ks l :=
  paired_mono (fun k e ⟨b, he, hb, hz⟩ => ⟨b, he, tup_stays hb ho hd sb, hz⟩) r
theorem pick_paired {α β : Type} {F : α → β → Prop} {xs : List α} {ys : List β} (r : Paired F xs ys) : ∀ l : List Nat, Paired F (l.filterMap fun i => xs[i]?) (l.filterMap fun i => ys[i]?)
  | [] => .nil
  | i :: l => by
    have ih := pick_paired r l
    cases e : xs[i]? with
    | none =>
      have e2 : ys[i]? = none := by
        rw [List.getElem?_eq_none_iff] at e ⊢
        rw [← DD.paired_len r]
        exact e
      rw [List.filterMap_cons_none e, List.filterMap_cons_none e2]
      exact ih
    | some x =>
      obtain ⟨y, e2, hf⟩ := DD.paired_at r e
      rw [List.filterMap_cons_some e, List.filterMap_cons_some e2]
      exact .cons hf ih
theorem pick_all {α : Type} (xs : List α) : (List.range xs.length).filterMap (fun i => xs[i]?) = xs := by
  have h : ∀ (zs : List α) (ys : List α), (List.range zs.length).filterMap (fun i => (zs ++ ys)[i]?) = zs := by
    intro zs
    have : ∀ n (zs : List α), zs.length = n → ∀ ys, (List.range zs.length).filterMap (fun i => (zs ++ ys)[i]?) = zs := by
      intro n
      induction n with
      | zero => intro zs hz ys; rw [List.length_eq_zero_iff.mp hz]; rfl
      | succ n ih =>
        intro zs hz ys
        rcases List.eq_nil_or_concat zs with rfl | ⟨us, x, rfl⟩
        · cases hz
        · rw [List.concat_eq_append] at *
          have hu : us.length = n := by
            rw [List.length_append] at hz
            simpa using hz
          have h1 := ih us hu ([x] ++ ys)
          rw [List.append_assoc, List.length_append, List.length_singleton, List.range_succ, List.filterMap_append, h1]
          congr 1
          rw [List.filterMap_cons_some (b := x) (by simp)]
          rfl
    exact this zs.length zs rfl
  have := h xs []
  simpa using this
theorem pick_perm {α : Type} {xs : List α} {l : List Nat} (hp : l.Perm (List.range xs.length)) : (l.filterMap fun i => xs[i]?).Perm xs := by
  have h1 := hp.filterMap (fun i => xs[i]?)
  rw [pick_all] at h1
  exact h1
theorem pick_map {α β : Type} (f : α → β) (xs : List α) (ys : Array β) (d : β) (hy : ∀ (i : Nat) x, xs[i]? = some x → ys[i]? = some (f x)) : ∀ l : List Nat, (∀ i ∈ l, i < xs.length) → (l.filterMap fun i => xs[i]?).map f = l.map fun i => ys.getD i d
  | [], _ => rfl
  | i :: l, hl => by
    have hi := hl i List.mem_cons_self
    have e := List.getElem?_eq_getElem hi
    rw [List.filterMap_cons_some e, List.map_cons, List.map_cons, pick_map f xs ys d hy l fun j hj => hl j (List.mem_cons_of_mem _ hj)]
    have e2 := hy i _ e
    rw [Array.getD_eq_getD_getElem?, e2]
    rfl
theorem lay_anew {Z : List Key → Addr → Prop} {a : Addr} {ks : List (List Key)} {es : Array (Int × Value)} {ep : Nat} {t : SetTable} {o : Obj} (ho : s.heap.get? a = some o) (hex : o.ExactSet) (hd : o.data = .set es ep t) (r : Paired (Ent P w Z s.heap) ks es.toList) (T : TabOk t (ks.map (tkh P w))) (nd : ks.Nodup) (few : ks.length < 64) (hfl : ks.length ≤ t.mask) {wanted M : Nat}
    (hw : SetTable.sizeAbove wanted - 1 = M) (hM : MaskOk M) (hw2 : SetTable.sizeAbove wanted ≤ 128) (hn : ks.length * 5 < M * 3) {Q : Unit → Shared → Prop}
    (q : ∀ h' ks' es' ep' t', Heap.SameBut a s.heap h' → Rws P w Z h' a ks' es' ep' t' → ks'.Perm ks → Q () { s with heap := h' }) : wpAny (model P w) A (setRelay a wanted) Q E s := by
  have hsz := ents_size r
  have hpl : t.place.size = es.size := by rw [T.sz, List.length_map, hsz]
  obtain ⟨t', order, e, hp, T', em, _, _, _⟩ := relaid_ok t (hs := es.map (·.1)) (wanted := wanted) hw hM (by rw [Array.size_map, hsz]; omega)
  rw [Array.size_map, hsz] at hp
  have r' := pick_paired r order.toList
  have hl : (order.filterMap (es[·]?)).toList = order.toList.filterMap fun i => es.toList[i]? := by
    rw [Array.toList_filterMap]
    congr 1
    funext i
    exact (Array.getElem?_toList).symm
  rw [← hl] at r'
  have pm := pick_perm (xs := ks) hp
  have hs2 : (order.filterMap (es[·]?)).size = es.size := by rw [ents_size r', pm.length_eq, hsz]
  rw [← pick_map (tkh P w) ks (es.map (·.1)) 0 (fun i k hk => by
    obtain ⟨y, hy, b, rfl, _⟩ := DD.paired_at r hk
    rw [Array.getElem?_map, ← Array.getElem?_toList, hy]
    rfl) order.toList (fun i hi => List.mem_range.mp (hp.mem_iff.mp hi))] at T'
  rw [setRelay_eq]
  refine wpAny_bind (wpAny_setState_of ho hd (fits_of (m := 0) T.dm hpl (by omega)) ?_)
  dsimp only
  refine wp_if_neg (by rw [sizeLine_eq]; omega) ?_
  try refine wpAny_bind (wpAny_pure ?_)
  rw [e]
  dsimp only
  refine wpAny_bind ?_
  refine wp_if_neg (by rw [hs2]; simp) ?_
  try refine wpAny_bind (wpAny_pure ?_)
  refine wpAny_pure ?_
  dsimp only
  refine wpAny_storeSet_of ho hd ?_ (by rw [hs2, hsz, sizeLine_eq]; omega)
  have sb : Heap.SameBut a s.heap (s.heap.update a (Obj.putSet (order.filterMap (es[·]?)) t')) := Heap.SameBut.update ..
  refine q _ _ _ (ep + 1) t' sb ⟨⟨_, store_at ho hd, ⟨hex.1, hex.2.1, hex.2.2⟩, rfl⟩, ent_stays ho hd sb r', T', pm.nodup_iff.mpr nd, ?_, by rw [pm.length_eq]; exact few⟩ pm
  rw [pm.length_eq, em]
  exact hn
end
end UU
namespace UU
open PySem PySem.Spec PyProof.Rows L2 DD
section
variable {P : Program} {w : World} {A : Around} {E : Value → Shared → Prop} {s : Shared}
variable {Z : List Key → Addr → Prop} {a : Addr} {ks : List (List Key)} {es : Array (Int × Value)} {ep : Nat} {t : SetTable}
theorem look_whole (R : Rws P w Z s.heap a ks es ep t) {x : Addr} {k : List Key} (hx : TupAt P w s.heap k x) (hu : A.units < cLine) {Q : SetFound → Shared → Prop} (yes : k ∈ ks → Q (.there none) s)
    (no : ∀ K, k ∉ ks → way t.mask (tkh P w k) K ∉ t.place.toList → (∀ c, c < K → way t.mask (tkh P w k) c ∈ t.place.toList) → Q (.free (way t.mask (tkh P w k) K) false) s) :
    wpAny (model P w) A (setSearch a (.ref x) (tkh P w k) true) Q E s := by
  have hr := R.room
  obtain ⟨K, k1, k2, k3⟩ := R.tab.first (by rw [List.length_map]; omega) (tkh P w k)
  have kb : K < 100000 := by
    have : 10 * SetTable.turns t.mask ≤ 1420 := by
      unfold SetTable.turns
      rcases R.tab.mok with e | e | e <;> omega
    omega
  unfold setSearch
  exact look_for R hx hu k1 k2 k3 yes (fun h => no K h k2 k3) 100000 0 none rfl (Nat.zero_le _) (by omega) fun i _ c' hc' => absurd hc' (Nat.not_lt_zero _)
theorem tab_plain {t t' : SetTable} {hs : List Int} (T : TabOk t hs) (h1 : t'.place = t.place) (h2 : t'.dummies = t.dummies) (h3 : t'.mask = t.mask) : TabOk t' hs :=
  ⟨by rw [h1]; exact T.ris, by rw [h2]; exact T.dm, by rw [h1]; exact T.sz, by rw [h3]; exact T.mok, by rw [h1, h3]; exact T.bd, by rw [h1, h3]; exact T.reach⟩
/-- what adding k leaves -/
def Adds (P : Program) (w : World) (Z : List Key → Addr → Prop) (s : Shared) (a : Addr) (ks : List (List Key)) (k : List Key) (q : Shared → Prop) : Prop :=
  ∀ h' ks' es' ep' t', Heap.SameBut a s.heap h' → Rws P w Z h' a ks' es' ep' t' → (∀ j, j ∈ ks' ↔ j = k ∨ j ∈ ks) → ks'.length ≤ ks.length + 1 → q { s with heap := h' }
/-- the new entry is laid, its table t2 but for the mark of plainness -/
theorem lay_row (R : Rws P w Z s.heap a ks es ep t) {x : Addr} {k : List Key} (hx : TupAt P w s.heap k x) (hz : Z k x) (hk : k ∉ ks) (hfew : ks.length + 1 < 64) {t2 : SetTable} {p : Nat} (hp : p ≤ ks.length) (T2 : TabOk t2 ((ks.map (tkh P w)).take p ++ tkh P w k :: (ks.map (tkh P w)).drop p)) (hm : t2.mask = t.mask)
    {Q : Bool → Shared → Prop} (q : Adds P w Z s a ks k (Q true)) :
    wpAny (model P w) A (do
      storeSet a (SetTable.insertAt es p (tkh P w k, .ref x)) t2
      if t2.tooFull then setRelay a (SetTable.grown (es.size + 1))
      return true) Q E s := by
  obtain ⟨o, ho, hex, hd⟩ := R.obj
  have hsz := ents_size R.ent
  have hr := R.room
  have r1 : Paired (Ent P w Z s.heap) (ks.take p ++ k :: ks.drop p) (SetTable.insertAt es p (tkh P w k, .ref x)).toList := by
    rw [SetTable.toList_insertAt]
    exact DD.paired_app (DD.paired_take R.ent p) (.cons ⟨x, rfl, hx, hz⟩ (DD.paired_drop R.ent p))
  have T3 : TabOk t2 ((ks.take p ++ k :: ks.drop p).map (tkh P w)) := by
    rw [List.map_append, List.map_cons, List.map_take, List.map_drop]
    exact T2
  have pm : (ks.take p ++ k :: ks.drop p).Perm (k :: ks) := by
    have h := @List.perm_middle _ k (ks.take p) (ks.drop p)
    rw [List.take_append_drop] at h
    exact h
  generalize ks.take p ++ k :: ks.drop p = ks1 at r1 T3 pm
  generalize SetTable.insertAt es p (tkh P w k, .ref x) = es1 at r1 ⊢
  have hl : ks1.length = ks.length + 1 := pm.length_eq
  have hes := ents_size r1
  have nd1 : ks1.Nodup := pm.nodup_iff.mpr (List.nodup_cons.mpr ⟨hk, R.nd⟩)
  have hin : ∀ j, j ∈ ks1 ↔ j = k ∨ j ∈ ks := fun j => by rw [pm.mem_iff, List.mem_cons]
  refine wpAny_bind (wpAny_storeSet_of ho hd ?_ (by rw [hes, hl, sizeLine_eq]; omega))
  have sb : Heap.SameBut a s.heap (s.heap.update a (Obj.putSet es1 t2)) := Heap.SameBut.update ..
  have ho1 := store_at (es' := es1) (t' := t2) ho hd
  have r2 := ent_stays ho hd sb r1
  generalize s.heap.update a (Obj.putSet es1 t2) = h1 at sb ho1 r2 ⊢
  have hfull : t2.tooFull = decide ((ks.length + 1) * 5 ≥ t.mask * 3) := by
    unfold SetTable.tooFull SetTable.fill
    rw [T3.dm, T3.sz, List.length_map, hl, hm]
    rfl
  by_cases hf : (ks.length + 1) * 5 ≥ t.mask * 3
  · have go : ∀ M, SetTable.sizeAbove (SetTable.grown (ks.length + 1)) - 1 = M → MaskOk M → SetTable.sizeAbove (SetTable.grown (ks.length + 1)) ≤ 128 → (ks.length + 1) * 5 < M * 3 → wpAny (model P w) A (setRelay a (SetTable.grown (ks.length + 1))) (fun _ s' => wpAny (model P w) A (pure true) Q E s') E { s with heap := h1 } := by
      intro M m1 m2 m3 m4
      refine lay_anew (s := { s with heap := h1 }) ho1 ⟨hex.1, hex.2.1, hex.2.2⟩ rfl r2 T3 nd1 (by rw [hl]; exact hfew) (by rw [hl, hm]; omega) m1 m2 m3 (by rw [hl]; exact m4) ?_
      intro h2 ks2 es2 ep2 t4 sb2 R2 pm2
      exact wpAny_pure (q h2 ks2 es2 ep2 t4 (sb.trans sb2) R2 (fun j => by rw [pm2.mem_iff]; exact hin j) (by rw [pm2.length_eq, hl]; exact Nat.le_refl _))
    have two : (t.mask = 7 ∧ ks.length = 4) ∨ (t.mask = 31 ∧ ks.length = 18) := by
      rcases R.tab.mok with e | e | e
      · exact .inl ⟨e, by omega⟩
      · exact .inr ⟨e, by omega⟩
      · omega
    first
      | (refine wp_if_pos (by rw [hfull]; exact decide_eq_true hf) ?_; refine wpAny_bind ?_)
      | (refine wpAny_bind ?_; refine wp_if_pos (by rw [hfull]; exact decide_eq_true hf) ?_)
    rw [hsz]
    rcases two with ⟨_, e⟩ | ⟨_, e⟩
    · exact go 31 (by rw [e, size_20]) (.inr (.inl rfl)) (by rw [e, size_20]; decide) (by omega)
    · exact go 127 (by rw [e, size_76]) (.inr (.inr rfl)) (by rw [e, size_76]; decide) (by omega)
  · have fin : Q true { s with heap := h1 } := q h1 ks1 es1 (ep + 1) t2 sb ⟨⟨_, ho1, ⟨hex.1, hex.2.1, hex.2.2⟩, rfl⟩, r2, T3, nd1, by rw [hl, hm]; omega, by rw [hl]; exact hfew⟩ hin (by rw [hl]; exact Nat.le_refl _)
    first
      | exact wp_if_neg (by rw [hfull, decide_eq_false hf]; decide) (wpAny_pure fin)
      | (refine wpAny_bind ?_; exact wp_if_neg (by rw [hfull, decide_eq_false hf]; decide) (wpAny_pure (wpAny_pure fin)))
theorem add_row (R : Rws P w Z s.heap a ks es ep t) {x : Addr} {k : List Key} (hx : TupAt P w s.heap k x) (hz : Z k x) (hu : A.units < cLine) (hfew : ks.length + 1 < 64) {Q : Bool → Shared → Prop} (q : ∀ b, Adds P w Z s a ks k (Q b)) : wpAny (model P w) A (setAddHashed a (.ref x) (tkh P w k)) Q E s := by
  obtain ⟨o, ho, hex, hd⟩ := R.obj
  unfold setAddHashed
  refine wpAny_holding ?_
  rw [show (100000 : Nat) = 99999 + 1 from rfl, setAddHashedIn_succ]
  refine wpAny_bind (wpAny_setState_of ho hd R.fits ?_)
  dsimp only
  refine wp_if_neg (by simp [byScan, Value.scannable]) ?_
  try refine wpAny_bind (wpAny_pure ?_)
  refine wpAny_bind (look_whole R hx hu (fun hm => ?_) fun K hm hK hb => ?_)
  · dsimp only
    exact wpAny_pure (q false s.heap ks es ep t (Heap.SameBut.refl a s.heap) R (fun j => ⟨.inr, fun h => h.elim (fun e => by subst e; exact hm) id⟩) (Nat.le_succ _))
  · dsimp only
    refine wpAny_bind (wpAny_setState_of ho hd R.fits ?_)
    dsimp only
    obtain ⟨q1, q2, q3, q4, q5, q6, q7, q8, q9⟩ := R.tab.put hK hb
    generalize hpt : t.put (way t.mask (tkh P w k) K) = pt at q1 q3 q4 q5 q6 q7 q8 q9 ⊢
    obtain ⟨t1, p⟩ := pt
    dsimp only at q1 q3 q4 q5 q6 q7 q8 q9 ⊢
    subst q1
    rw [List.length_map] at q2
    have fin : ∀ t2 : SetTable, t2.place = t1.place → t2.dummies = t1.dummies → t2.mask = t1.mask → wpAny (model P w) A (do
        storeSet a (SetTable.insertAt es (SetTable.below t.place (way t.mask (tkh P w k) K)) (tkh P w k, .ref x)) t2
        if t2.tooFull then setRelay a (SetTable.grown (es.size + 1))
        return true) Q E s := fun t2 h1 h2 h3 => lay_row R hx hz hm hfew q2 (tab_plain q3 h1 h2 h3) (h3.trans q4) (q true)
    have both : ∀ r : Bool, wpAny (model P w) A (do
        storeSet a (SetTable.insertAt es (SetTable.below t.place (way t.mask (tkh P w k) K)) (tkh P w k, .ref x)) (if r = true then t1 else { t1 with plain := false })
        if (if r = true then t1 else { t1 with plain := false }).tooFull then setRelay a (SetTable.grown (es.size + 1))
        return true) Q E s := by
      intro r
      cases r
      · exact fin _ rfl rfl rfl
      · exact fin _ rfl rfl rfl
    by_cases hp : t1.plain = true
    · exact wp_if_pos hp (wpAny_bind (some_hash hx fun r => both r))
    · exact wp_if_neg hp (wpAny_bind (wpAny_pure (both true)))
/-- set.add -/
theorem call_add (R : Rws P w Z s.heap a ks es ep t) {x : Addr} {k : List Key} (hx : TupAt P w s.heap k x) (hz : Z k x) (hu : A.in1.units < cLine) (hfew : ks.length + 1 < 64) {Q : Value → Shared → Prop}
    (q : ∀ h' ks' es' ep' t', Heap.SameBut a s.heap h' → Rws P w Z h' a ks' es' ep' t' → (∀ j, j ∈ ks' ↔ j = k ∨ j ∈ ks) → ks'.length ≤ ks.length + 1 → Q .none { s with heap := h', toks := s.toks + (k.length + 1) }) :
    wpAny (model P w) A (call (.builtin "set.add") [.ref a, .ref x]) Q E s := by
  obtain ⟨o, ho, hex, hd⟩ := id R.obj
  refine wpAny_call_entry F.slot_set_add (show s.TypeIs (.ref a) "set" from ⟨o, ho, hex.1⟩) F.entry_set_add ?_ (F.args_set_add_2 _ _)
  unfold Builtin.«set.add» Builtin.Frozenset.oneOther
  simp only [List.isEmpty_nil, bind_assoc]
  unfold Builtin.Frozenset.addrOf setAdd
  refine wpAny_bind (wpAny_pure ?_)
  try dsimp only
  refine wpAny_bind (wpAny_pure ?_)
  try dsimp only
  refine wpAny_bind ?_
  refine wpAny_holding ?_
  refine wpAny_bind (wpAny_pyHash_tuple hu hx ?_)
  refine add_row (s := { s with toks := s.toks + (k.length + 1) }) ⟨R.obj, R.ent, R.tab, R.nd, R.room, R.few⟩ hx hz hu hfew fun b h' ks' es' ep' t' sb R' hin hl => ?_
  show wpAny _ _ (ret Value.none) _ _ _
  exact wpAny_pure ⟨_, rfl, q h' ks' es' ep' t' sb R' hin hl⟩
end
end UU
namespace UU
open PySem PySem.Spec PyProof.Rows L2 DD
/-- at a stands the set of the tuples L (address and what is in it) -/
def Stands (P : Program) (w : World) (L : List (Addr × List Key)) (h : Heap) (a : Addr) : Prop := ∃ (es : Array (Int × Value)) (ep : Nat) (t : SetTable), (∃ o, h.get? a = some o ∧ o.ExactSet ∧ o.data = .set es ep t) ∧ es.toList = L.map (fun p => (tkh P w p.2, Value.ref p.1)) ∧
  TabOk t (L.map fun p => tkh P w p.2) ∧ (L.map (·.2)).Nodup ∧ L.length * 5 < t.mask * 3 ∧ L.length < 64
def SetU (P : Program) (w : World) (a : Addr) (L : List (Addr × List Key)) : HO := .ext fun h => Stands P w L h a
section
variable {P : Program} {w : World}
theorem stands_keep {L : List (Addr × List Key)} {h h' : Heap} {a : Addr} (x : Stands P w L h a) (k : ∀ o, h.get? a = some o → h'.get? a = some o) : Stands P w L h' a := by
  obtain ⟨es, ep, t, ⟨o, ho, r⟩, q⟩ := x
  exact ⟨es, ep, t, ⟨o, k o ho, r⟩, q⟩
theorem setU_new {H : Hp} {h : Heap} {a : Addr} {L : List (Addr × List Key)} (x : Stands P w L h a) : ObjOk P w H h a (SetU P w a L) := by
  obtain ⟨_, _, _, ⟨o, ho, _⟩, _⟩ := id x
  exact ⟨x, ⟨o, ho⟩, fun h1 h2 p k => stands_keep p k⟩
theorem stands_fresh {h : Heap} {a : Addr} {led : Bool} (ho : h.get? a = some { cls := .type "set", dict := none, data := .set #[] 0 (.fresh 0 0 led) }) : Stands P w [] h a := by
  refine ⟨#[], 0, _, ⟨_, ho, ⟨rfl, rfl, rfl⟩, rfl⟩, rfl, ⟨List.Pairwise.nil, rfl, rfl, .inl rfl, fun x hx => (by cases hx), fun i h j hi => (by simp at hi)⟩, List.nodup_nil, ?_, ?_⟩
  · show 0 * 5 < 7 * 3
    decide
  · show 0 < 64
    decide
theorem items_of : ∀ {k : List Key} {us : List Value}, Vals (k.map kV) us → ItemsAre (mixKind P w) k us := by
  intro k us r
  have h : ∀ {k : List Key} {us : List Value}, Paired (fun k v => (mixKind P w).is k v = true) k us → ItemsAre (mixKind P w) k us := by
    intro k us r
    induction r with
    | nil => exact .nil
    | cons a _ ih => exact .cons a ih
  exact h (paired_keys r)
end
section
variable {X : Cx}
theorem tup_known {pins : List (Addr × Obj)} {σ : L2.St} {H : Hp} {s : Shared} {b : Addr} {k : List Key} (I : Inv X pins σ H s) (h : SqT X.K H b (k.map kV)) : TupAt X.prog X.w s.heap k b := by
  obtain ⟨its, r, ⟨o, ho, hc, n, hd⟩, _⟩ := I.tuple h
  exact ⟨o, its.toArray, n, ho, hc, hd, by simpa using items_of r⟩
theorem ents_of {h : Heap} : ∀ {L : List (Addr × List Key)}, (∀ p ∈ L, TupAt X.prog X.w h p.2 p.1) → ∀ (M : List (Addr × List Key)), (∀ p ∈ L, p ∈ M) → Paired (Ent X.prog X.w (fun k b => (b, k) ∈ M) h) (L.map (·.2)) (L.map fun p => (tkh X.prog X.w p.2, Value.ref p.1))
  | [], _, _, _ => .nil
  | p :: L, ht, M, hm => .cons ⟨p.1, rfl, ht p List.mem_cons_self, hm p List.mem_cons_self⟩ (ents_of (fun q hq => ht q (List.mem_cons_of_mem _ hq)) M fun q hq => hm q (List.mem_cons_of_mem _ hq))
theorem ents_back {h : Heap} {M : List (Addr × List Key)} : ∀ {ks : List (List Key)} {l : List (Int × Value)}, Paired (Ent X.prog X.w (fun k b => (b, k) ∈ M) h) ks l → ∃ L : List (Addr × List Key), L.map (·.2) = ks ∧ l = L.map (fun p => (tkh X.prog X.w p.2, Value.ref p.1)) ∧ ∀ p ∈ L, p ∈ M
  | _, _, .nil => ⟨[], rfl, rfl, fun p hp => by cases hp⟩
  | k :: ks, _, .cons ⟨b, rfl, _, hz⟩ r => by
    obtain ⟨L, rfl, rfl, hm⟩ := ents_back r
    refine ⟨(b, k) :: L, rfl, rfl, fun p hp => ?_⟩
    rcases List.mem_cons.mp hp with rfl | hp
    · exact hz
    · exact hm p hp
theorem add_known {pins : List (Addr × Obj)} {σ : L2.St} {H : Hp} {s : Shared} {E : Value → Shared → Prop} {D x : Addr} {L : List (Addr × List Key)} {k : List Key} {Q : Value → Shared → Prop} (I : Inv X pins σ H s) (hD : H D = some (SetU X.prog X.w D L))
    (ht : ∀ p ∈ L, SqT X.K H p.1 (p.2.map kV)) (hx : SqT X.K H x (k.map kV)) (hu : X.A.in1.units < cLine) (few : L.length + 1 < 64)
    (q : ∀ s' L', Inv X pins σ (upd H D (SetU X.prog X.w D L')) s' → (∀ p ∈ L', p ∈ (x, k) :: L) → (∀ j, j ∈ L'.map (·.2) ↔ j = k ∨ j ∈ L.map (·.2)) → (L'.map (·.2)).Nodup → L'.length ≤ L.length + 1 → Q .none s') :
    wpAny (model X.prog X.w) X.A (call (.builtin "set.add") [.ref D, .ref x]) Q E s := by
  obtain ⟨es, ep, t, ob, he, T, nd, room, few0⟩ : Stands X.prog X.w L s.heap D := (I.hok D _ hD).1
  have R : Rws X.prog X.w (fun k' b => (b, k') ∈ (x, k) :: L) s.heap D (L.map (·.2)) es ep t := by
    refine ⟨ob, ?_, by rw [List.map_map]; exact T, nd, by rw [List.length_map]; exact room, by rw [List.length_map]; exact few0⟩
    rw [he]
    exact ents_of (fun p hp => tup_known I (ht p hp)) _ fun p hp => List.mem_cons_of_mem _ hp
  refine call_add R (tup_known I hx) List.mem_cons_self hu (by rw [List.length_map]; exact few) fun h' ks' es' ep' t' sb R' hin hl => ?_
  obtain ⟨L', rfl, e', hm⟩ := ents_back R'.ent
  have st : Stands X.prog X.w L' h' D := ⟨es', ep', t', R'.obj, e', by have := R'.tab; rw [List.map_map] at this; exact this, R'.nd, by have := R'.room; rwa [List.length_map] at this, by have := R'.few; rwa [List.length_map] at this⟩
  have ex : ∃ u, h'.get? D = some u := by
    obtain ⟨o, ho, _⟩ := R'.obj
    exact ⟨o, ho⟩
  refine q _ L' (I.write (e := D) (t' := s.toks + (k.length + 1)) (by rw [hD]; trivial) (.inl rfl) (fun b u hb hu => (sb.2 b hb).trans hu) ex (setU_new st)) hm hin R'.nd ?_
  rw [List.length_map, List.length_map] at hl
  exact hl
end
end UU
namespace UU
open PySem PySem.Spec PyProof.Rows L2 DD
/-- what a tuple's joining the set of L at D leaves: any list of the old ones and the new one -/
def Joins (P : Program) (w : World) (K : PySem.W.Frag) (D : Addr) (y : V) (H : Hp) (Nx : Hp → Prop) : Prop := ∃ (x : Addr) (k : List Key) (L : List (Addr × List Key)), y = .ref x ∧ SqT K H x (k.map kV) ∧ H D = some (SetU P w D L) ∧ (∀ p ∈ L, SqT K H p.1 (p.2.map kV)) ∧ L.length + 1 < 64 ∧
  ∀ L', (∀ p ∈ L', p ∈ (x, k) :: L) → (∀ j, j ∈ L'.map (·.2) ↔ j = k ∨ j ∈ L.map (·.2)) → (L'.map (·.2)).Nodup → L'.length ≤ L.length + 1 → Nx (upd H D (SetU P w D L'))
/-- len({elt for target in iter if ..}) -/
def tLsc (P : Program) (w : World) (K : PySem.W.Frag) (wi : TI) (g : TG) (tt : TT) (te : TE) (vs : List Nat) : TE := fun σ H Q => wi σ H fun J H1 => ∀ D, H1 D = none → ∃ V : Nat → Nat → Hp → Prop, (∃ m, V 0 m (upd H1 D (SetU P w D []))) ∧ ∀ i m H2, V i m H2 →
  (J.stop i H2 ∧ ∃ L, H2 D = some (SetU P w D L) ∧ Q (.int (L.length : Nat)) H2) ∨ (J.go i H2 ∧ ∃ Nx : Hp → Prop, (∀ H', Nx H' → ∃ m', m' < m ∧ V (i + 1) m' H') ∧ ∀ x H3, J.yld i H2 x H3 → g x (wipe σ vs) H3 fun σ4 H4 => wipe σ4 vs = wipe σ vs ∧ tt σ4 H4 fun b H5 =>
    if b = true then te σ4 H5 fun y H6 => Joins P w K D y H6 Nx else Nx H5)
section
variable {X : Cx}
theorem core {pins : List (Addr × Obj)} {s : Shared} {σ : L2.St} {H : Hp} {Q : VK} {elt tg iter : Expr} {ifs : List Expr} {scope : Scope} {own : List (PySem.Str × Nat)} {pos : Pos} {wi : TI} {g : TG} {tt : TT} {te : TE} {Fin' : Value → Shared → Prop}
    (calm : X.calm = true) (hu : X.A.units + 1 < cLine) (nd : X.N.Nodup) (inv : Inv X pins σ H s) (pi : PI X tg iter wi) (blk : BlkOk X.N X.env.scope scope own)
    (pg : ∀ (s : Shared) (H : Hp) (C : Addr) (cl : List (PySem.Str × Addr)) (fp : List Addr), PG (X.blk s H scope (compEnvC scope cl C X.env) fp) tg g) (pt : ∀ (s : Shared) (H : Hp) (C : Addr) (cl : List (PySem.Str × Addr)) (fp : List Addr), PTs (X.blk s H scope (compEnvC scope cl C X.env) fp) ifs tt)
    (pe : ∀ (s : Shared) (H : Hp) (C : Addr) (cl : List (PySem.Str × Addr)) (fp : List Addr), PE (X.blk s H scope (compEnvC scope cl C X.env) fp) elt te) (fold : ∀ x, foldedSetIterable iter X.env x = pure x)
    (h : tLsc X.prog X.w X.K wi g tt te (own.map (·.2)) σ H Q)
    (after : ∀ D s' H' L, Inv X pins σ H' s' → H' D = some (SetU X.prog X.w D L) → Q (.int (L.length : Nat)) H' → Fin' (.ref D) s') :
    wpAny (model X.prog X.w) X.A (eval (.SetComp elt [⟨tg, iter, ifs, 0⟩] scope pos) X.env) Fin' X.xe s := by
  rw [PpSet.eval_SetComp]
  have cells : ∀ y ∈ scope.names, y.2 = .free → ∃ c, X.env.cells.lookup y.1 = some c := fun y hy e => (blk.free y hy e).elim (fun z => inv.ok.has _ (.inl z)) fun z => inv.ok.has _ (.inr z)
  refine wpAny_comprehension_free (use := none) rfl fold (closure_ok cells) blk.kind (fun y hy e => by rw [blk.uniq y hy, e]) (thn (pi.run pins s σ H _ inv h) fun xv s1 got => thn got fun itv s2 start => ?_)
  obtain ⟨it, fp, tn, J, H2, rfl, inv2, T, tn2, fp2, todo⟩ := start
  refine PpSet.newSet_ok (newEnv_comp ?_)
  obtain ⟨D, hD⟩ : ∃ D, s2.heap.objs.size = D := ⟨_, rfl⟩
  rw [hD]
  obtain ⟨V, ⟨m0, v0⟩, turn⟩ := todo D (inv2.hok.fresh (Nat.le_of_eq hD))
  obtain ⟨s3, es3⟩ : ∃ s3 : Shared, { s2 with heap := s2.heap.push { cls := .type "set", dict := none, data := .set #[] 0 (.fresh 0 0 (!X.w.params.followText "set-order")) } } = s3 := ⟨_, rfl⟩
  have heap3 : s3.heap = s2.heap.push { cls := .type "set", dict := none, data := .set #[] 0 (.fresh 0 0 (!X.w.params.followText "set-order")) } := by rw [← es3]
  have keep3 : ∀ b o, s2.heap.get? b = some o → s3.heap.get? b = some o := fun b o e => by rw [heap3]; exact Heap.get?_push_of_some _ e
  obtain ⟨H3, eH3⟩ : ∃ H3, upd H2 D (SetU X.prog X.w D []) = H3 := ⟨_, rfl⟩
  have inv3 : Inv X pins σ H3 s3 := by
    rw [← eH3, ← es3]
    refine inv2.laid (t' := s2.toks) (fun b o e => Heap.get?_push_of_some _ e) (Nat.le_of_eq hD) ?_
    rw [← hD]
    exact setU_new (stands_fresh (Heap.get?_push_size _ rfl))
  rw [eH3] at v0
  have small : ∀ b ∈ fp, b < s2.heap.objs.size := fun b hb => (T.obj _ _ tn2 b hb).elim fun o z => Heap.lt_size z.1
  have fp3 : ∀ b ∈ fp, FpOk X pins H3 b ∧ b < s3.heap.objs.size := fun b hb => by
    have lt := small b hb
    refine ⟨⟨?_, (fp2 b hb).2⟩, by rw [heap3, Heap.size_push]; exact Nat.lt_succ_of_lt lt⟩
    rw [← eH3, upd_ne (Nat.ne_of_lt (hD ▸ lt))]
    exact (fp2 b hb).1
  have tn3 : tn 0 s3.heap := T.keep _ _ _ tn2 fun b _ o e => keep3 b o e
  have inv4 := block_start inv3 blk nd fp3
  rw [es3]
  have none3 : ∀ b ∈ fp, H3 b = none := fun b hb => (fp3 b hb).1.1
  obtain ⟨cl, ecl⟩ : ∃ cl, cellsFrom (s3.heap.objs.size + 1) scope.names (cloFrom X.env.cells scope.names []) = cl := ⟨_, rfl⟩
  have pg' := pg s3 H3 s3.heap.objs.size cl fp
  have pt' := pt s3 H3 s3.heap.objs.size cl fp
  have pe' := pe s3 H3 s3.heap.objs.size cl fp
  rw [ecl] at inv4
  show codeAny _ _ (.compStart (.SetComp elt [⟨tg, iter, ifs, 0⟩] scope pos) 0 (.ref it) (.ref D) (compEnvC scope (cellsFrom (s3.heap.objs.size + 1) scope.names (cloFrom X.env.cells scope.names [])) s3.heap.objs.size X.env)) _ _
  rw [ecl]
  obtain ⟨C, eC⟩ : ∃ C, s3.heap.objs.size = C := ⟨_, rfl⟩
  rw [eC] at inv4 pg' pt' pe' ⊢
  obtain ⟨ce, ece⟩ : ∃ ce, compEnvC scope cl C X.env = ce := ⟨_, rfl⟩
  have loc : ce.locals = C := by rw [← ece]; rfl
  rw [ece] at inv4 pg' pt' pe' ⊢
  obtain ⟨s4, es4⟩ : ∃ s4 : Shared, { s3 with heap := pushCells (s3.heap.push { cls := .type "dict", data := .dict #[] }) scope.names } = s4 := ⟨_, rfl⟩
  rw [es4] at inv4 ⊢
  have tn4 : tn 0 s4.heap := T.keep _ _ _ tn3 fun b _ o e => by
    rw [← es4]
    exact pushCells_keeps _ _ _ _ (Heap.get?_push_of_some _ e)
  -- what an iterator's address is to the block
  have spot : ∀ {τ : L2.St} {G : Hp} {z : Shared}, Inv (X.blk s3 H3 scope ce fp) [] τ G z → (∀ b ∈ fp, G b = none) → ∀ b ∈ fp, FpOk (X.blk s3 H3 scope ce fp) [] G b := by
    intro τ G z J0 no b hb
    have ⟨e1, e2⟩ := J0.ok.exf b hb
    exact ⟨no b hb, e1, J0.ok.exfs b hb, .inl hb, fun x c e => e2 x c e, fun p hp => by
      have hp : p ∈ ([] : List (Addr × Obj)) ++ [] := hp
      simp at hp⟩
  -- where a turn begins
  let Here : Nat → Shared → Prop := fun n z => ∃ i G, Inv (X.blk s3 H3 scope ce fp) [] (wipe σ (own.map (·.2))) G z ∧ tn i z.heap ∧ (∀ b ∈ fp, G b = none) ∧ V i n G
  have run : codeAny (model X.prog X.w) X.A (.compLoop (.SetComp elt [⟨tg, iter, ifs, 0⟩] scope pos) 0 (.ref it) (.ref D) ce) (compPost (model X.prog X.w) X.A X.xe none Fin' (.ref D) C) s4 := by
    refine PpSet.compLoopS_any Here ?_ m0 ⟨0, H3, inv4, tn4, none3, v0⟩
    rintro n z ⟨i, G, J1, t1, no1, v1⟩
    rcases turn i n G v1 with ⟨stop, L, hL, hq⟩ | ⟨go, Nx, less, one⟩
    · -- the end
      refine thnF (T.done (X.blk s3 H3 scope ce fp) rfl rfl rfl calm i [] z _ G (fun _ _ => False) J1 (spot J1 no1) t1 stop) fun r z2 ⟨hr, J2⟩ => ?_
      subst hr
      have back : Inv X pins σ G z2 := inv3.call' (ch := fp) J2.os J2.base J2.hok J2.bare fun b hb => by
        have ⟨_, e1, e2, e3, e4, e5⟩ := (fp3 b hb).1
        exact ⟨e3, e1, e4, e5⟩
      have noC : G C = none := by
        have e : G ce.locals = none := J2.free
        rwa [loc] at e
      obtain ⟨m, hm, _⟩ := J2.loc
      have hm : z2.heap.Ns ce.locals m := hm
      rw [loc] at hm
      refine ⟨m, hm, fun h'' sb => ?_⟩
      have ⟨f0, f1, _, f3, f4, f5⟩ : FpOk X pins G C := by
        rw [← eC] at noC ⊢
        exact inv3.fpOk (Nat.le_refl _) noC
      exact after D _ G L (back.turned (t' := z2.toks) (fun b o hb e => (sb.2 b hb).trans e) f0 f1 f3 f4 f5) hL hq
    · -- one more
      refine thnF (T.item (X.blk s3 H3 scope ce fp) rfl rfl rfl calm i [] z _ G (fun _ _ => False) J1 (spot J1 no1) t1 go) fun r z2 ⟨u, hr, h2⟩ => ?_
      subst hr
      refine thnF h2 fun _ z3 ⟨x, G3, J3, r3, y3, t3, no3⟩ => ?_
      refine thnF (pg'.run _ z3 _ G3 x u _ (J3.pinned (spot J3 no3) (T.obj _ _ t3)) r3 (one x G3 y3)) fun _ z4 ⟨τ4, G4, J4, w4, q4⟩ => ?_
      refine thnF (pt'.run _ z4 τ4 G4 _ J4 q4) fun b z5 ⟨G5, J5, q5⟩ => ?_
      have close : ∀ {z' : Shared} {G' : Hp}, Inv (X.blk s3 H3 scope ce fp) ([] ++ pinsAt fp z3.heap) τ4 G' z' → Nx G' → ∃ m, m < n ∧ Here m z' := by
        intro z' G' J' nx
        obtain ⟨m', lt, v'⟩ := less G' nx
        have pinned : ∀ b ∈ fp, ∀ o, z3.heap.get? b = some o → z'.heap.get? b = some o ∧ G' b = none := fun b hb o e => by
          have ⟨p1, p2, _⟩ := J'.pin (b, o) (List.mem_append_right _ (List.mem_append_right _ (mem_pinsAt hb e)))
          exact ⟨p1, p2⟩
        refine ⟨m', lt, i + 1, G', (J'.unpinned (pins := [])).weak (by rw [← w4, wipe_length]) (fun j v e => ?_), T.keep _ _ _ t3 fun b hb o e => (pinned b hb o e).1, fun b hb => ?_, v'⟩
        · rw [← w4] at e
          exact (wipe_some e).1
        · obtain ⟨o, e, _⟩ := T.obj _ _ t3 b hb
          exact (pinned b hb o e).2
      cases b with
      | false => exact close J5 (by simpa using q5)
      | true =>
        have q5 : te τ4 G5 fun y H6 => Joins X.prog X.w X.K D y H6 Nx := by simpa using q5
        simp only [if_true]
        refine thnF (pe'.run _ z5 τ4 G5 _ J5 q5) fun v z6 ⟨yv, G6, J6, r6, jn⟩ => ?_
        obtain ⟨x, k, L, rfl, hx, hD6, hts, few, nx⟩ := jn
        cases r6
        exact add_known (X := X.blk s3 H3 scope ce fp) J6 hD6 hts hx hu few fun z7 L' J7 m1 m2 m3 m4 => close J7 (nx L' m1 m2 m3 m4)
  exact PpSet.codeAny_compStart_set run (T.self X.A 0 _ _ _ tn4 run)
end
end UU
namespace DD
open PySem PySem.Spec PyProof.Rows L2 UU
theorem pe_lenSet {X : Cx} {elt tg iter : Expr} {ifs : List Expr} {scope : Scope} {own : List (PySem.Str × Nat)} {p pos cpos : Pos} {wi : TI} {g : TG} {tt : TT} {te : TE} (calm : X.calm = true) (hu : X.A.units + 2 < cLine) (hg : Gl X "len") (hm : X.mg "len" = none) (nd : X.N.Nodup) (pi : PI X tg iter wi) (blk : BlkOk X.N X.env.scope scope own)
    (pg : ∀ (s : Shared) (H : Hp) (C : Addr) (cl : List (PySem.Str × Addr)) (fp : List Addr), PG (X.blk s H scope (compEnvC scope cl C X.env) fp) tg g) (pt : ∀ (s : Shared) (H : Hp) (C : Addr) (cl : List (PySem.Str × Addr)) (fp : List Addr), PTs (X.blk s H scope (compEnvC scope cl C X.env) fp) ifs tt)
    (pe : ∀ (s : Shared) (H : Hp) (C : Addr) (cl : List (PySem.Str × Addr)) (fp : List Addr), PE (X.blk s H scope (compEnvC scope cl C X.env) fp) elt te) (fold : ∀ x, foldedSetIterable iter X.env x = pure x) :
    PE X (.Call (.Name "len" p) [.SetComp elt [⟨tg, iter, ifs, 0⟩] scope pos] [] cpos) (tLsc X.prog X.w X.K wi g tt te (own.map (·.2))) := by
  refine ⟨fun pins s σ H Q I h => ?_⟩
  refine Call_ (ld_blt I hg hm PySem.boot_len ?_)
  refine PyProof.Rows.callWith_builtin1 (PyProof.Rows.args_cons ?_ rfl) rfl rfl
  refine core calm (by omega) nd I pi blk pg pt pe fold h fun D s' H' L I' hD hq => ?_
  obtain ⟨es, ep, t, ⟨o, ho, hex, hd⟩, he, T, _, room, few⟩ : Stands X.prog X.w L s'.heap D := (I'.hok D _ hD).1
  have hn : es.size = L.length := by
    have h := congrArg List.length he
    rwa [Array.length_toList, List.length_map] at h
  have hf : t.fits es.size = true := fits_of (m := 0) T.dm (by rw [T.sz, List.length_map, hn]) (by rw [hn]; omega)
  refine PyProof.Rows.args_nil ?_
  exact call_len_set ho hex hd hf (by rw [hn]; omega) ⟨.int (L.length : Nat), H', I'.tok _, ⟨_, by rw [hn]⟩, hq⟩
@[irreducible] def lenD (g : DG) (tt : DT) (te : DE) (vs : List Nat) (xs : List Sv) (Δ : List Sv) (st1 : Store) (ok : OK) : Prop := xs.length < 63 ∧ ∃ J : Nat → List (List Key) → Store → Prop, J 0 [] st1 ∧
  (∀ i d acc st', xs[i]? = some d → J i acc st' → g d (wipeD Δ vs) st' fun Δ2 st2 => tt Δ2 st2 (fun b st3 => (b = true → te Δ2 st3 (fun y st4 => ∃ dy k, y = .dat dy ∧ keyT dy = some k ∧ J (i + 1) (acc ++ [k]) st4) fun _ _ => False) ∧ (b = false → J (i + 1) acc st3)) fun _ _ => False) ∧
  ∀ acc st', J xs.length acc st' → ∀ L : List (List Key), L.Nodup → (∀ k, k ∈ L ↔ k ∈ acc) → ok (.dat (.int (L.length : Nat))) st'
theorem lenD_eq (g : DG) (tt : DT) (te : DE) (vs : List Nat) (xs : List Sv) (Δ : List Sv) (st1 : Store) (ok : OK) : lenD g tt te vs xs Δ st1 ok = (xs.length < 63 ∧ ∃ J : Nat → List (List Key) → Store → Prop, J 0 [] st1 ∧
  (∀ i d acc st', xs[i]? = some d → J i acc st' → g d (wipeD Δ vs) st' fun Δ2 st2 => tt Δ2 st2 (fun b st3 => (b = true → te Δ2 st3 (fun y st4 => ∃ dy k, y = .dat dy ∧ keyT dy = some k ∧ J (i + 1) (acc ++ [k]) st4) fun _ _ => False) ∧ (b = false → J (i + 1) acc st3)) fun _ _ => False) ∧
  ∀ acc st', J xs.length acc st' → ∀ L : List (List Key), L.Nodup → (∀ k, k ∈ L ↔ k ∈ acc) → ok (.dat (.int (L.length : Nat))) st') := by
  unfold lenD
  rfl
section
variable {K : PySem.W.Frag} {W : WX} {st : Store} {I H : Hp}
theorem wd_beside {D : Addr} (w : Wd K st I H) (hD : D ∉ keys st) (iD : I D = none) (o : HO) : Wd K st I (upd H D o) := by
  refine ⟨fun a u e => ?_, fun p ob hp => ?_, w.nd⟩
  · have ne : a ≠ D := fun z => by
      subst z
      rw [iD] at e
      cases e
    rw [upd_ne ne]
    exact w.sub a u e
  · have ne : p ≠ D := fun z => by
      subst z
      exact hD (List.mem_map.mpr ⟨_, hp, rfl⟩)
    obtain ⟨h1, u, h2, h3⟩ := w.own p ob hp
    exact ⟨h1, u, by rw [upd_ne ne]; exact h2, h3⟩
theorem stp_beside {D : Addr} {st0 : Store} {I0 H0 : Hp} (s : Stp st0 I0 H0 st I H) (h0 : H0 D = none) (o : HO) : Stp st0 I0 H0 st I (upd H D o) :=
  ⟨s.ii, fun a u ha e => by
    have ne : a ≠ D := fun z => by
      subst z
      rw [h0] at e
      cases e
    rw [upd_ne ne]
    exact s.hh a u ha e, s.nw, s.ks⟩
/-- the set at D, beside the world -/
structure Beside (P : Program) (w : World) (D : Addr) (L : List (Addr × List Key)) (st : Store) (I H : Hp) : Prop where
  nk : D ∉ keys st
  ni : I D = none
  at_ : H D = some (SetU P w D L)
  tup : ∀ p ∈ L, I p.1 = some (.tup (p.2.map kV))
theorem Beside.go {P : Program} {w : World} {D : Addr} {L : List (Addr × List Key)} {st' : Store} {I' H' : Hp} (b : Beside P w D L st I H) (s : Stp st I H st' I' H') : Beside P w D L st' I' H' where
  nk := fun h => by
    rcases s.ks D h with z | z
    · exact b.nk z
    · rw [b.at_] at z; cases z
  ni := by
    cases e : I' D with
    | none => rfl
    | some o =>
      exfalso
      rcases s.nw D (by rw [e]; exact fun z => by cases z) with z | z | z | ⟨vs, z⟩
      · exact z b.ni
      · rw [b.at_] at z; cases z
      · exact b.nk z
      · rw [b.at_] at z; cases z
  at_ := s.hh D _ b.nk b.at_
  tup := fun p hp => s.ii _ _ (b.tup p hp)
theorem ls_go {P : Program} {w : World} {g : DG} {tt : DT} {te : DE} {vs : List Nat} {Δ : List Sv} {ok : OK} {σ : L2.St} {Q : VK} {J : It} {xs : List Sv} (w1 : Wd K st I H) (sl : Sl K Δ I σ) (h1 : lenD g tt te vs xs Δ st ok) (k1 : Wk K st I H J xs) (c : Cont K st I H ok Q) (D : Addr) (hD : H D = none) :
    ∃ V : Nat → Nat → Hp → Prop, (∃ m, V 0 m (upd H D (SetU P w D []))) ∧ ∀ i m H2, V i m H2 →
      (J.stop i H2 ∧ ∃ L, H2 D = some (SetU P w D L) ∧ Q (.int (L.length : Nat)) H2) ∨ (J.go i H2 ∧ ∃ Nx : Hp → Prop, (∀ H', Nx H' → ∃ m', m' < m ∧ V (i + 1) m' H') ∧ ∀ x H3, J.yld i H2 x H3 → lowGw K vs g x (wipe σ vs) H3 fun σ4 H4 => wipe σ4 vs = wipe σ vs ∧ lowT K tt W0 σ4 H4 fun b H5 =>
        if b = true then low K te W0 σ4 H5 fun y H6 => Joins P w K D y H6 Nx else Nx H5) := by
  rw [lenD_eq] at h1
  obtain ⟨few, Jv, j0, jt, je⟩ := h1
  obtain ⟨G, Y, wk, hg, hy⟩ := k1.w
  have iD : I D = none := w1.sub.none hD
  have kD : D ∉ keys st := fun hm => by
    obtain ⟨⟨q, ob⟩, hq, e⟩ := List.mem_map.mp hm
    obtain ⟨_, u, h2, _⟩ := w1.own q ob hq
    have e : q = D := e
    subst e
    rw [hD] at h2
    cases h2
  refine any_it wk (B := fun Nx x H' => lowGw K vs g x (wipe σ vs) H' fun σ4 H4 => wipe σ4 vs = wipe σ vs ∧ lowT K tt W0 σ4 H4 fun b H5 => if b = true then low K te W0 σ4 H5 fun y H6 => Joins P w K D y H6 Nx else Nx H5)
    (fun i H' => ∃ acc st' I' L, Jv i acc st' ∧ Wd K st' I' H' ∧ Stp st I H st' I' H' ∧ Beside P w D L st' I' H' ∧ (L.map (·.2)).Nodup ∧ (∀ k, k ∈ L.map (·.2) ↔ k ∈ acc) ∧ L.length ≤ i)
    ⟨[], st, I, [], j0, wd_beside w1 kD iD _, stp_beside (Stp.refl _ _ _) hD _, ⟨kD, iD, upd_same, fun p hp => by cases hp⟩, List.nodup_nil, fun k => ⟨fun h => by simp at h, fun h => by cases h⟩, Nat.le_refl _⟩ (fun i H' ⟨_, _, I', _, _, w', s', _⟩ => hg _ I' H' w' s') ?_ ?_
  · rintro i x H' H3 hi ⟨acc, st', I', L, hj, w', s', bs, nd, hm, hl⟩ y
    obtain ⟨d, I3, hd, w3, s3, ix⟩ := hy i H' x H3 _ I' hi w' s' y
    have b3 := bs.go s3
    have t3 := s'.trans s3
    refine ⟨d, _, _, I3, _, w3, sl_wipe (sl.mono t3.ii) vs, ix, jt i d acc st' hd hj, fun Δ4 st4 σ4 I4 H4 h4 w4 s4 l4 e4 => ⟨by rw [e4, wipe_wipe], ?_⟩⟩
    have t4 := t3.trans s4
    have b4 := b3.go s4
    refine lowT_go w4 l4 h4 (fun b st5 I5 H5 h5 w5 s5 => ?_) (fun _ _ _ _ _ _ z => z.elim)
    have t5 := t4.trans s5
    have b5 := b4.go s5
    cases b with
    | false => exact iteF ⟨acc, st5, I5, L, h5.2 rfl, w5, t5, b5, nd, hm, by omega⟩
    | true =>
      refine iteT (low_go w5 (l4.mono s5.ii) (h5.1 rfl) (fun y st6 u I6 H6 h6 w6 s6 i6 => ?_) (fun _ _ _ _ _ _ z => z.elim))
      obtain ⟨dy, k, rfl, hk, hj'⟩ := h6
      have b6 := b5.go s6
      cases i6 with
      | dat i6 =>
        obtain ⟨x6, rfl, ix6, hx6⟩ := keyT_is w6 i6 hk
        refine ⟨x6, k, L, rfl, w6.sub.st (.inl (.inl ix6)), b6.at_, fun p hp => w6.sub.st (.inl (.inl (b6.tup p hp))), by omega, fun L' m1 m2 m3 m4 => ?_⟩
        refine ⟨acc ++ [k], st6, I6, L', hj', wd_beside w6 b6.nk b6.ni _, stp_beside (t5.trans s6) hD _, ⟨b6.nk, b6.ni, upd_same, fun p hp => ?_⟩, m3, fun j => ?_, by omega⟩
        · rcases List.mem_cons.mp (m1 p hp) with rfl | hp
          · exact ix6
          · exact b6.tup p hp
        · rw [m2, hm, List.mem_append, List.mem_singleton]
          exact ⟨fun h => h.symm, fun h => h.symm⟩
  · rintro H' ⟨acc, st', I', L, hj, w', s', bs, nd, hm, hl⟩
    refine ⟨L, bs.at_, ?_⟩
    have h := je _ _ hj _ nd hm
    rw [List.length_map] at h
    exact c _ _ _ _ _ h w' s' (.dat (.int _))
def dLsc (it : DI) (g : DG) (tt : DT) (te : DE) (vs : List Nat) : DE := fun Δ st ok ex => it Δ st (fun xs st1 => lenD g tt te vs xs Δ st1 ok) ex
theorem low_lsc {P : Program} {w : World} {it : DI} {g : DG} {tt : DT} {te : DE} {vs : List Nat} : ∀ σ H Q, low K (dLsc it g tt te vs) W σ H Q → tLsc P w K (lowI K it W) (lowGw K vs g) (lowT K tt W0) (low K te W0) vs σ H Q := by
  rintro σ H Q ⟨Δ, st, I, ok, ex, wd, sl, h, c, cx⟩
  exact ⟨Δ, st, I, _, _, wd, sl, h, fun xs st1 I1 H1 J h1 w1 s1 k1 D hD => ls_go w1 (sl.mono s1.ii) h1 k1 (c.go s1) D hD, cx⟩
end
theorem dlsc {X : Cx} {W : WX} {elt tg iter : Expr} {ifs : List Expr} {scope : Scope} {p pos cpos : Pos} {it : DI} {te : DE} {g : DG} {tt : DT} {kk : Nat} (hr : Room kk X.A) (hm : X.mg "len" = none) (own : List (Str × Nat)) (hN : X.N.Nodup) (hi : PId X W tg iter it) (ok : BlkOk X.N X.env.scope scope own)
    (hg : ∀ (s : Shared) (H : Hp) (C : Addr) (cl : List (Str × Addr)) (fp : List Addr), PGw (X.blk s H scope (compEnvC scope cl C X.env) fp) (own.map (·.2)) tg g) (ht : ∀ (s : Shared) (H : Hp) (C : Addr) (cl : List (Str × Addr)) (fp : List Addr), PTsd (X.blk s H scope (compEnvC scope cl C X.env) fp) ifs tt)
    (he : ∀ (s : Shared) (H : Hp) (C : Addr) (cl : List (Str × Addr)) (fp : List Addr), PEd (X.blk s H scope (compEnvC scope cl C X.env) fp) W0 elt te) (hg0 : Gl X "len" := by rfl) (hc : X.calm = true := by rfl) (hs : ∀ x, foldedSetIterable iter X.env x = pure x := by intro _; rfl) :
    PEd X W (.Call (.Name "len" p) [.SetComp elt [⟨tg, iter, ifs, 0⟩] scope pos] [] cpos) (dLsc it g tt te (own.map (·.2))) := PE.imp (pe_lenSet hc (by have := hu64 hr; omega) hg0 hm hN hi ok hg ht he hs) low_lsc
end DD
namespace DD
open PySem PySem.Spec PyProof.Rows L2 UU
end DD
namespace DD
open PySem PySem.Spec PyProof.Rows L2
end DD
namespace SP
open PySem PySem.Spec PyProof.Rows L2 DD
abbrev wn (b : Bk) (l : Lst) : List Str := (wished b l).map (·.n)
def apart (l : Lst) (p : Plan) : Bool := decide (p.map fun x => epAt l x.1).Nodup
theorem win_names (b : Bk) (l : Lst) : (windows b l).map (·.1) = wn b l := by
  unfold windows wn
  rw [List.map_map]
  rfl
theorem wn_nd {b : Bk} {l : Lst} (hl : LOk l) : (wn b l).Nodup := by
  have h := windows_nd (b := b) hl
  have e : ((wished b l).filterMap fun x => some ((Sum.inr x.n : Key), winD x.win)).map (·.1) = (wn b l).map fun n => (Sum.inr n : Key) := by
    rw [show (fun x : Wi => some ((Sum.inr x.n : Key), winD x.win)) = some ∘ fun x => ((Sum.inr x.n : Key), winD x.win) from rfl, List.filterMap_eq_map, List.map_map, List.map_map]
    rfl
  rw [e] at h
  exact (List.pairwise_map.mp h).imp fun {a b} k z => k (by rw [z])
theorem win_is {b : Bk} {l : Lst} (hl : LOk l) {w : Wi} (hw : w ∈ wished b l) : winOf (windows b l) w.n = w.win := by
  have nd : ((windows b l).map (·.1)).Nodup := by rw [win_names]; exact wn_nd hl
  have hm : (w.n, w.win) ∈ windows b l := List.mem_map.mpr ⟨w, hw, rfl⟩
  unfold winOf
  rw [look_mem nd hm]
  rfl
theorem nodup_of_len {α : Type} [DecidableEq α] : ∀ {M L : List α}, L.Nodup → (∀ k ∈ L, k ∈ M) → M.length ≤ L.length → M.Nodup
  | [], _, _, _, _ => List.nodup_nil
  | a :: M, L, nd, sub, len => by
    have na : a ∉ M := fun h => by
      have := nd.length_le_of_subset (l₂ := M) (fun k hk => by
        rcases List.mem_cons.mp (sub k hk) with rfl | h2
        · exact h
        · exact h2)
      rw [List.length_cons] at len
      omega
    refine List.nodup_cons.mpr ⟨na, nodup_of_len (L := L.erase a) (nd.erase a) (fun k hk => ?_) ?_⟩
    · have h1 := (nd.mem_erase_iff).mp hk
      rcases List.mem_cons.mp (sub k h1.2) with h2 | h2
      · exact absurd h2 h1.1
      · exact h2
    · rw [List.length_erase, List.length_cons] at *
      split <;> omega
theorem len_iff {α : Type} [DecidableEq α] {M L : List α} (nd : L.Nodup) (h : ∀ k, k ∈ L ↔ k ∈ M) : L.length = M.length ↔ M.Nodup :=
  ⟨fun e => nodup_of_len nd (fun k hk => (h k).mp hk) (Nat.le_of_eq e.symm), fun n => ((List.perm_ext_iff_of_nodup nd n).mpr h).length_eq⟩
theorem epKey_inj2 {a b : Ep} (h : epKey a = epKey b) : a = b := by
  unfold epKey at h
  obtain ⟨a1, a2⟩ := a
  obtain ⟨b1, b2⟩ := b
  simp only [List.cons.injEq, Sum.inr.injEq, Sum.inl.injEq, and_true] at h
  rw [h.1, h.2]
theorem apart_len {l : Lst} {p : Plan} {L : List (List Key)} (nd : L.Nodup) (h : ∀ k, k ∈ L ↔ k ∈ p.map fun x => epKey (epAt l x.1)) : decide ((L.length : Int) = (p.length : Int)) = apart l p := by
  unfold apart
  refine decide_eq_decide.mpr ?_
  have h1 := len_iff nd h
  rw [List.length_map] at h1
  have h2 : (p.map fun x => epKey (epAt l x.1)).Nodup ↔ (p.map fun x => epAt l x.1).Nodup := by
    unfold List.Nodup
    rw [List.pairwise_map, List.pairwise_map]
    exact ⟨fun k => k.imp fun {a b} z e => z (by rw [e]), fun k => k.imp fun {a b} z e => z (epKey_inj2 e)⟩
  rw [← h2, ← h1]
  exact ⟨fun e => by omega, fun e => by omega⟩
def LnJ {α : Type} (as : List α) (f : α → List Key) (st : Store) (i : Nat) (acc : List (List Key)) (st' : Store) : Prop := st' = st ∧ acc = (as.take i).map f
theorem len_pure {α : Type} {g : DG} {tt : DT} {te : DE} {vs : List Nat} {xs : List Sv} {Δ : List Sv} {st : Store} {ok : OK} (as : List α) (e : α → Dt) (f : α → List Key) (hx : xs = as.map fun a => .dat (e a)) (hl : as.length < 63)
    (hb : ∀ (i : Nat) (a : α) (acc : List (List Key)), as[i]? = some a → LnJ as f st i acc st → g (.dat (e a)) (wipeD Δ vs) st fun Δ2 st2 => tt Δ2 st2 (fun b st3 => (b = true → te Δ2 st3 (fun y st4 => ∃ dy k, y = .dat dy ∧ keyT dy = some k ∧ LnJ as f st (i + 1) (acc ++ [k]) st4) fun _ _ => False) ∧ (b = false → LnJ as f st (i + 1) acc st3)) fun _ _ => False)
    (hk : ∀ L : List (List Key), L.Nodup → (∀ k, k ∈ L ↔ k ∈ as.map f) → ok (.dat (.int (L.length : Nat))) st) : lenD g tt te vs xs Δ st ok := by
  subst hx
  rw [lenD_eq]
  refine ⟨by rw [List.length_map]; exact hl, LnJ as f st, ⟨rfl, rfl⟩, ?_, ?_⟩
  · rintro i d acc st' hd hJ
    obtain ⟨rfl, _⟩ := id hJ
    rw [List.getElem?_map] at hd
    cases ea : as[i]? with
    | none => rw [ea] at hd; cases hd
    | some a =>
      rw [ea] at hd
      cases hd
      exact hb i a acc ea hJ
  · rintro acc st' ⟨rfl, rfl⟩ L nd hm
    rw [List.length_map, List.take_length] at hm
    exact hk L nd hm
theorem len_yes {α : Type} {as : List α} {f : α → List Key} {st : Store} {i : Nat} {a : α} {acc : List (List Key)} {d : Dt} (ha : as[i]? = some a) (J : LnJ as f st i acc st) (hk : keyT d = some (f a)) : ∃ dy k, Sv.dat d = .dat dy ∧ keyT dy = some k ∧ LnJ as f st (i + 1) (acc ++ [k]) st := by
  refine ⟨d, f a, rfl, hk, rfl, ?_⟩
  rw [J.2, List.take_succ, ha]
  simp
end SP
namespace SP
open PySem PySem.Spec PyProof.Rows L2 DD
theorem txs_eqvAll : ∀ ns ms : List Str, PyData.eqvAll (ns.map txtP) (ms.map txtP) = decide (ns = ms)
  | [], [] => by simp [PyData.eqvAll]
  | [], _ :: _ => by simp [PyData.eqvAll]
  | _ :: _, [] => by simp [PyData.eqvAll]
  | n :: ns, m :: ms => by
    rw [List.map_cons, List.map_cons, PySem.W.eqv_all_cons, txs_eqvAll ns ms]
    have e : PyData.eqv (txtP n) (txtP m) = decide (n = m) := by simp only [txtP, PyData.eqv]; by_cases h : n = m <;> simp [h]
    rw [e]
    by_cases h1 : n = m <;> by_cases h2 : ns = ms <;> simp [h1, h2]
theorem txs_depth : ∀ ns : List Str, PyData.depthAll (ns.map txtP) = 0
  | [] => by simp [PyData.depthAll]
  | n :: ns => by
    rw [List.map_cons, PyData.depthAll, txs_depth ns]
    simp [txtP, PyData.depth]
def Quiet (b : Bk) (l : Lst) (p : Plan) : Prop := ∀ x ∈ p, ∀ y ∈ p, y.1 ≠ x.1 → epAt l y.1 ≠ epAt l x.1 ∧ ¬ (y.2 = x.2 ∧ overlap (winOf (windows b l) y.1) (winOf (windows b l) x.1) = true)
theorem first_free {ws : List (Str × Win)} {p : Plan} {k : Nat} : ∀ {ns : List Str} {x : Str × Int}, firstFree ws p k ns = some x → onRec ws p x.2 x.1 = []
  | [], x, h => by cases h
  | n :: ns, x, h => by
    unfold firstFree at h
    cases e : freeAt ws p k n with
    | some r =>
      rw [e] at h
      cases h
      unfold freeAt at e
      rw [List.find?_range_eq_some] at e
      cases e2 : onRec ws p (r : Int) n with
      | nil => rfl
      | cons a as =>
        have := e.1
        rw [e2] at this
        cases this
    | none =>
      rw [e] at h
      exact first_free h
theorem Quiet.step {b : Bk} {l : Lst} {k : Nat} {pre : List Ep} {p : Plan} (hl : LOk l) (h : PInv b l k pre p) (q : Quiet b l p) {e : Ep} (he : e ∉ pre) : Quiet b l (takeStep b l k p e) := by
  unfold takeStep
  cases hf : firstFree (windows b l) p k (sendsOf b l e) with
  | none => exact q
  | some z =>
    obtain ⟨h1, _⟩ := first_mem hf
    have hz := first_free hf
    obtain ⟨w', hw', e3, e4⟩ := sends_mem.mp h1
    have ez : epAt l z.1 = e := by rw [← e3, epAt_is hl hw', e4]
    have far : ∀ x ∈ p, epAt l x.1 ≠ epAt l z.1 ∧ ¬ (x.2 = z.2 ∧ overlap (winOf (windows b l) x.1) (winOf (windows b l) z.1) = true) := by
      intro x hx
      obtain ⟨⟨w, hw, e1, e2⟩, _⟩ := h.mem x hx
      refine ⟨fun c => he ?_, fun ⟨c1, c2⟩ => ?_⟩
      · rw [ez, ← e1, epAt_is hl hw] at c
        rw [← c]
        exact e2
      · have : x.1 ∈ onRec (windows b l) p z.2 z.1 := by
          unfold onRec onRecW
          rw [List.mem_filter, List.mem_filter, (sortN_perm _).mem_iff]
          exact ⟨⟨List.mem_map.mpr ⟨x, hx, rfl⟩, decide_eq_true (by rw [look_mem h.nd hx, c1])⟩, c2⟩
        rw [hz] at this
        cases this
    intro x hx y hy hne
    rcases List.mem_append.mp hx with hx | hx
    · rcases List.mem_append.mp hy with hy | hy
      · exact q x hx y hy hne
      · rw [List.mem_singleton.mp hy] at hne ⊢
        obtain ⟨f1, f2⟩ := far x hx
        exact ⟨fun c => f1 c.symm, fun ⟨c1, c2⟩ => f2 ⟨c1.symm, by rw [over_comm]; exact c2⟩⟩
    · rw [List.mem_singleton.mp hx] at hne ⊢
      rcases List.mem_append.mp hy with hy | hy
      · exact far y hy
      · rw [List.mem_singleton.mp hy] at hne
        exact absurd rfl hne
structure Over (pool : List Str) (q : Plan) : Prop where
  nd : (q.map (·.1)).Nodup
  sub : ∀ x ∈ q, x.1 ∈ pool
theorem Over.len {pool : List Str} {q : Plan} (h : Over pool q) : q.length ≤ pool.length := by
  have := h.nd.length_le_of_subset (l₂ := pool) (fun n hn => by
    obtain ⟨x, hx, rfl⟩ := List.mem_map.mp hn
    exact h.sub x hx)
  rwa [List.length_map] at this
end SP
namespace DD
open PySem PySem.Spec PyProof.Rows L2
def gSum : GC := fun xs st ok => match xs with
  | [x] => withL x st fun ys => ∃ ns : List Int, ys = ns.map (fun n => Sv.dat (.int n)) ∧ ok (.dat (.int ns.sum)) st
  | _ => False
theorem ints_of {K : PySem.W.Frag} {I : Hp} : ∀ {ns : List Int} {vs : List V}, IsSs K I (ns.map fun n => Sv.dat (.int n)) vs → vs = ns.map V.int
  | [], _, .nil => rfl
  | n :: ns, _, .cons (.dat (.int _)) t => by rw [List.map_cons, ints_of t]
theorem lc_sum {K : PySem.W.Frag} : LRC (K := K) (rSum K) gSum := by
  intro xs st I H ok Q vs wd ix h c
  unfold gSum at h
  split at h
  · obtain ⟨v, rfl, i⟩ := one_arg ix
    obtain ⟨a, us, ys, rfl, hs, hp, ns, rfl, h⟩ := withL_rd wd i h
    obtain rfl := ints_of hp
    exact ⟨a, ns, rfl, hs, c.now wd h (.dat (.int _))⟩
  · exact h.elim
def maxOr (d : Int) : List Int → Int
  | [] => d
  | n :: ns => ns.foldl max n
def rMaxOr (K : PySem.W.Frag) : List V → List V → Hp → VK → Prop := fun vs zs H Q => ∃ (a : Addr) (ns : List Int) (d : Int), vs = [.ref a] ∧ zs = [.int d] ∧ SqL K H a (ns.map V.int) ∧ Q (.int (maxOr d ns)) H
theorem ints_dp {K : PySem.W.Frag} {H : Hp} : ∀ ns : List Int, DpAll K H (ns.map V.int) (ns.map PyData.int)
  | [] => .nil
  | n :: ns => .cons (.int n) (ints_dp ns)
theorem cr_maxOr {X : Cx} (hc : X.calm = true) (hu : X.A.units + 65 < cLine) : CallRK X (.builtin "max") ["default"] (rMaxOr X.K) := by
  intro pins s σ H xs zs us ws Q I rx rz h
  obtain ⟨a, ns, d, rfl, rfl, hs, q⟩ := h
  obtain ⟨its, rv, hl, hz⟩ := I.list hs
  rw [Vals.ref1 rx]
  obtain ⟨w, hw⟩ : ∃ w, ws = [w] ∧ RelV (.int d) w := by
    cases rz with
    | cons r t => cases t; exact ⟨_, rfl, r⟩
  obtain ⟨rfl, rw_⟩ := hw
  obtain ⟨as, hr⟩ := Dp.readsAll I _ _ _ (ints_dp ns) rv
  have hal : PySem.W.AlikeAll (ns.map PyData.int) := by
    refine ⟨fun x hx y hy => ?_, fun x hx => ?_⟩
    · obtain ⟨m, _, rfl⟩ := List.mem_map.mp hx
      obtain ⟨n, _, rfl⟩ := List.mem_map.mp hy
      simp [PySem.W.alike]
    · obtain ⟨m, _, rfl⟩ := List.mem_map.mp hx
      exact fun z => by cases z
  refine PySem.W.max_list_default (xs := ns.map .int) (I.ok.hd hc) hl.isList hr hal (by rw [PySem.W.depth_ints]; omega) (fun h0 h' tk hk => ?_) fun y ys i v h' tk bs e hv hrd hk => ?_
  · have : ns = [] := by cases ns with | nil => rfl | cons n ns => cases h0
    subst this
    exact ⟨.int d, H, I.kept hk, rw_, q⟩
  · cases ns with
    | nil => cases e
    | cons n ns =>
      cases e
      rw [PySem.W.maxD_ints] at hrd
      cases hrd
      exact ⟨.int _, H, I.kept hk, ⟨_, rfl⟩, q⟩
theorem PK.imp {X : Cx} {kws : List Keyword} {t t' : TA} (h : PK X kws t) (i : ∀ σ H Q, t' σ H Q → t σ H Q) : PK X kws t' := ⟨fun pos pins s σ H Q I q => h.run pos pins s σ H Q I (i σ H Q q)⟩
def dMaxOr (ta tk : DA) : DE := fun Δ st ok ex => ta Δ st (fun xs st1 => tk Δ st1 (fun zs st2 => match xs, zs with
  | [x], [.dat (.int d)] => withL x st2 fun ys => ∃ ns : List Int, ys = ns.map (fun n => Sv.dat (.int n)) ∧ ok (.dat (.int (maxOr d ns))) st2
  | _, _ => False) ex) ex
theorem low_maxOr {K : PySem.W.Frag} {W : WX} {ta tk : DA} : ∀ σ H Q, low K (dMaxOr ta tk) W σ H Q → tCKw (rMaxOr K) (lowA K ta W) (lowA K tk W) σ H Q := by
  rintro σ H Q ⟨Δ, st, I, ok, ex, wd, sl, h, c, cx⟩
  refine lowA_go wd sl h (fun xs st1 vs I1 H1 h1 w1 s1 i1 => ?_) cx
  refine lowA_go w1 (sl.mono s1.ii) h1 (fun zs st2 us I2 H2 h2 w2 s2 i2 => ?_) (cx.go s1)
  split at h2
  · rename_i x d
    obtain ⟨v, rfl, i⟩ := one_arg i1
    obtain ⟨u, rfl, iu⟩ := one_arg i2
    cases iu with
    | dat hu =>
      cases hu
      obtain ⟨a, ws, ys, rfl, hs, hp, ns, rfl, h3⟩ := withL_rd w2 (i.mono s2.ii) h2
      obtain rfl := ints_of hp
      exact ⟨a, ns, d, rfl, rfl, hs, c _ _ _ _ _ h3 w2 (s1.trans s2) (.dat (.int _))⟩
  · exact h2.elim
theorem dmaxOr {X : Cx} {W : WX} {e d : Expr} {p pos kpos : Pos} {te td : DE} {kk : Nat} (hr : Room kk X.A) (hm : X.mg "max" = none) (ha : PEd X W e te) (hd : PEd X W d td) (hc : X.calm = true := by rfl) (hg : Gl X "max" := by rfl)
    (hs : starEach [e] X.env = (false, eval e X.env) :: starEach [] X.env := by rfl) (he : backTo pos (starEach [e] X.env) = (false, eval e X.env) :: backTo pos (starEach [] X.env) := by rfl) (hpl : (backTo pos (starEach [e] X.env)).any (·.1) = false := by rfl)
    (hall : (backToKw pos (keywordEach [⟨some "default", d, kpos⟩] X.env)).all (·.1.isSome) = true := by rfl) (hnone : (backToKw pos (keywordEach [⟨some "default", d, kpos⟩] X.env)).any (·.1.isNone) = false := by rfl) (hks : (backToKw pos (keywordEach [⟨some "default", d, kpos⟩] X.env)).filterMap (·.1) = [Str.ofString "default"] := by rfl) :
    PEd X W (.Call (.Name "max" p) [e] [⟨some "default", d, kpos⟩] pos) (dMaxOr (dCons te dNil) (dCons td dNil)) :=
  PE.imp (pe_callBK (cr_maxOr hc (hu65 hr)) hg hm PyProof.Rows.boot_max (acons ha anil hs) (PK.imp (pk_cons hd (PK.imp pk_nil lowA_nil)) lowA_cons) (by decide) (by decide) he hpl hall hnone hks) low_maxOr
end DD
namespace SP
open PySem PySem.Spec PyProof.Rows L2 DD
theorem pow10 {m : Nat} (h : m ≤ 10) : 2 ^ m ≤ 1024 := Nat.le_trans (Nat.pow_le_pow_right (by decide) h) (by decide)
theorem subs_few {ns : List Str} (ha : ascN ns) (hl : ns.length ≤ 10) (n : Nat) : (subsN ns n).length ≤ 1024 := by
  have h := (subs_nd str_ord ha n).length_le_of_subset (l₂ := setsU ns) (fun t ht => (sets_mem str_ord ns ha t).mpr ((subs_mem str_ord ns n t).mp ht).2)
  rw [sets_len] at h
  exact Nat.le_trans h (pow10 hl)
theorem lv_few {ns : List Str} (ha : ascN ns) (hl : ns.length ≤ 10) (n : Nat) : (lvU strLt ns n).length ≤ 1024 := by
  have nd : (lvU strLt ns n).Nodup := (lv_pw str_ord ha n).imp fun {a b} h e => lx_ne (o := str_ord) h e
  have h := nd.length_le_of_subset (l₂ := setsU ns) (fun t ht => (sets_mem str_ord ns ha t).mpr ((lv_mem str_ord ns n t).mp ht).2)
  rw [sets_len] at h
  exact Nat.le_trans h (pow10 hl)
/-- subsets of names in their order, as a list or as a tuple -/
def ctSubs : Ct := fun ss st ok _ => ∃ (ns : List Str) (n : Nat), ss = [.dat (namesD ns), dI (n : Int)] ∧ ascN ns ∧ ns.length ≤ 10 ∧ n ≤ 10 ∧ ok (.dat (.lst ((subsN ns n).map nsD))) st
def openAt (ws : List (Str × Win)) (ns : List Str) (m : Int) : List Str := ns.filter fun n => decide ((winOf ws n).1 ≤ m) && decide (m < (winOf ws n).2)
def mostAt (ws : List (Str × Win)) (ns : List Str) : Int := maxOr 0 (ns.map fun n => ((openAt ws ns (winOf ws n).1).length : Int))
structure InW (ws : List (Str × Win)) (ns : List Str) : Prop where
  len : ns.length ≤ 10
  mem : ∀ n ∈ ns, ∃ w, look ws n = some w
@[irreducible] def ctOpen : Ct := fun ss st ok _ => ∃ (ws : List (Str × Win)) (ns : List Str) (m : Int), ss = [.dat (dicD winD ws), .dat (nsD ns), dI m] ∧ InW ws ns ∧ ok (.dat (namesD (openAt ws ns m))) st
theorem ctOpen_eq {ss : List Sv} {st : Store} {ok : OK} {ex : EK} : ctOpen ss st ok ex = ∃ (ws : List (Str × Win)) (ns : List Str) (m : Int), ss = [.dat (dicD winD ws), .dat (nsD ns), dI m] ∧ InW ws ns ∧ ok (.dat (namesD (openAt ws ns m))) st := by unfold ctOpen; rfl
@[irreducible] def ctMost : Ct := fun ss st ok _ => ∃ (ws : List (Str × Win)) (ns : List Str), ss = [.dat (dicD winD ws), .dat (nsD ns)] ∧ InW ws ns ∧ ok (dI (mostAt ws ns)) st
theorem ctMost_eq {ss : List Sv} {st : Store} {ok : OK} {ex : EK} : ctMost ss st ok ex = ∃ (ws : List (Str × Win)) (ns : List Str), ss = [.dat (dicD winD ws), .dat (nsD ns)] ∧ InW ws ns ∧ ok (dI (mostAt ws ns)) st := by unfold ctMost; rfl
def apartN (l : Lst) (t : List Str) : Bool := decide (t.map (epAt l)).Nodup
theorem apartN_len {l : Lst} {t : List Str} {L : List (List Key)} (nd : L.Nodup) (h : ∀ k, k ∈ L ↔ k ∈ t.map fun n => epKey (epAt l n)) : decide ((L.length : Int) = (t.length : Int)) = apartN l t := by
  have := apart_len (l := l) (p := t.map fun n => (n, (0 : Int))) nd (by intro k; rw [h, List.map_map]; rfl)
  rw [List.length_map] at this
  rw [this]
  unfold apart apartN
  rw [List.map_map]
  rfl
@[irreducible] def ctApartN (c : Cl) : Ct := fun ss st ok _ => ∃ (l : Lst) (t : List Str), ss = [.dat (lstD c l), .dat (nsD t)] ∧ LOk l ∧ t.length ≤ 10 ∧ (∀ n ∈ t, ∃ s, (n, s) ∈ l) ∧ ok (.dat (.bl (apartN l t))) st
theorem ctApartN_eq (c : Cl) {ss : List Sv} {st : Store} {ok : OK} {ex : EK} : ctApartN c ss st ok ex = ∃ (l : Lst) (t : List Str), ss = [.dat (lstD c l), .dat (nsD t)] ∧ LOk l ∧ t.length ≤ 10 ∧ (∀ n ∈ t, ∃ s, (n, s) ∈ l) ∧ ok (.dat (.bl (apartN l t))) st := by unfold ctApartN; rfl
def singles (l : Lst) (ns : List Str) : List (List Str) := (subsN ns ns.length).filter (apartN l)
@[irreducible] def ctSingles (c : Cl) : Ct := fun ss st ok _ => ∃ (l : Lst) (ns : List Str), ss = [.dat (lstD c l), .dat (namesD ns)] ∧ LOk l ∧ ascN ns ∧ (∀ n ∈ ns, ∃ s, (n, s) ∈ l) ∧ ok (.dat (.lst ((singles l ns).map nsD))) st
theorem ctSingles_eq (c : Cl) {ss : List Sv} {st : Store} {ok : OK} {ex : EK} : ctSingles c ss st ok ex = ∃ (l : Lst) (ns : List Str), ss = [.dat (lstD c l), .dat (namesD ns)] ∧ LOk l ∧ ascN ns ∧ (∀ n ∈ ns, ∃ s, (n, s) ∈ l) ∧ ok (.dat (.lst ((singles l ns).map nsD))) st := by unfold ctSingles; rfl
theorem asc_ten {l : Lst} (hl : LOk l) {ns : List Str} (ha : ascN ns) (hm : ∀ n ∈ ns, ∃ s, (n, s) ∈ l) : ns.length ≤ 10 := by
  have h := asc_len str_ord ha (ns := l.map (·.1)) (fun n hn => by
    obtain ⟨s, hs⟩ := hm n hn
    exact List.mem_map.mpr ⟨_, hs, rfl⟩)
  rw [List.length_map] at h
  exact Nat.le_trans h hl.len
def choicesIn (b : Bk) (l : Lst) (k : Nat) : List (List Str) := (singles l (wn b l)).filter fun t => decide (mostAt (windows b l) t ≤ (k : Int))
def ctAmongC (c : Cl) : Ct := fun ss st ok _ => ∃ (b : Bk) (l : Lst) (k : Nat), ss = [.dat (lstD c l), .dat (dicD winD (windows b l)), dI (k : Int)] ∧ BOk b ∧ LOk l ∧ ok (.dat (.lst ((choicesIn b l k).map nsD))) st
def ctChoices (c : Cl) : Ct := ctBL c (fun k : Nat => [dI (k : Int)]) (fun _ _ k => 1 ≤ k ∧ k ≤ 10) fun b l k => .lst ((choicesIn b l k).map nsD)
theorem wn_asc {b : Bk} {l : Lst} (hl : LOk l) : ascN (wn b l) := by
  have h := asc_names hl
  unfold ascN Asc at h ⊢
  rw [List.pairwise_map] at h ⊢
  unfold wished
  rw [List.pairwise_filterMap]
  refine h.imp fun {x y} k u hu v hv => ?_
  cases hx : ruleFor b x.2 with
  | none => rw [hx] at hu; cases hu
  | some r =>
    rw [hx] at hu
    cases hu
    cases hy : ruleFor b y.2 with
    | none => rw [hy] at hv; cases hv
    | some r' =>
      rw [hy] at hv
      cases hv
      exact k
end SP
namespace SP
open PySem PySem.Spec PyProof.Rows L2 DD
def prioAt (b : Bk) (l : Lst) (n : Str) : Int := match wiOf b l n with
  | some w => w.r.priority
  | none => 0
theorem prioAt_is {b : Bk} {l : Lst} (hl : LOk l) {w : Wi} (hw : w ∈ wished b l) : prioAt b l w.n = w.r.priority := by
  unfold prioAt wiOf
  have nd := wn_nd (b := b) hl
  have h : (wished b l).find? (fun x => decide (x.n = w.n)) = some w := by
    have key : ∀ ws : List Wi, (ws.map (·.n)).Nodup → w ∈ ws → ws.find? (fun x => decide (x.n = w.n)) = some w := by
      intro ws
      induction ws with
      | nil => intro _ h; cases h
      | cons a ws ih =>
        intro nd hm
        rw [List.find?_cons]
        by_cases e : a.n = w.n
        · rw [decide_eq_true e]
          rcases List.mem_cons.mp hm with rfl | hm
          · rfl
          · exact absurd (List.mem_map.mpr ⟨w, hm, e.symm⟩) (List.nodup_cons.mp nd).1
        · rw [decide_eq_false e]
          rcases List.mem_cons.mp hm with rfl | hm
          · exact absurd rfl e
          · exact ih (List.nodup_cons.mp nd).2 hm
    exact key _ nd hw
  rw [h]
def worthOf (b : Bk) (l : Lst) (t : List Str) : Int := (t.map (prioAt b l)).sum
@[irreducible] def ctWorth (c : Cl) : Ct := fun ss st ok _ => ∃ (b : Bk) (l : Lst) (t : List Str), ss = [.dat (b.d c), .dat (lstD c l), .dat (nsD t)] ∧ BOk b ∧ LOk l ∧ t.length ≤ 10 ∧ (∀ n ∈ t, n ∈ wn b l) ∧ ok (dI (worthOf b l t)) st
theorem ctWorth_eq (c : Cl) {ss : List Sv} {st : Store} {ok : OK} {ex : EK} : ctWorth c ss st ok ex = ∃ (b : Bk) (l : Lst) (t : List Str), ss = [.dat (b.d c), .dat (lstD c l), .dat (nsD t)] ∧ BOk b ∧ LOk l ∧ t.length ≤ 10 ∧ (∀ n ∈ t, n ∈ wn b l) ∧ ok (dI (worthOf b l t)) st := by unfold ctWorth; rfl
/-- a row of the best choice's search -/
abbrev BcR := Int × Int × List Str
def bcD (r : BcR) : Dt := .tup [.int r.1, .int r.2.1, nsD r.2.2]
def bcP (r : BcR) : PyData := .tuple [.int r.1, .int r.2.1, .tuple (r.2.2.map .str)]
theorem bc_of (r : BcR) : PyOf (bcD r) (bcP r) := .tup (.cons (.int _) (.cons (.int _) (.cons (ns_of _) .nil)))
def bcRow (b : Bk) (l : Lst) (t : List Str) : BcR := (-worthOf b l t, -(t.length : Int), t)
theorem choices_in {b : Bk} {l : Lst} (hl : LOk l) {k : Nat} {t : List Str} (h : t ∈ choicesIn b l k) : t.length ≤ 10 ∧ ∀ n ∈ t, n ∈ wn b l := by
  unfold choicesIn singles at h
  have h := (List.mem_filter.mp (List.mem_filter.mp h).1).1
  obtain ⟨h1, h2, h3⟩ := (subs_mem str_ord _ _ t).mp h
  refine ⟨Nat.le_trans h1 ?_, h3⟩
  refine asc_ten hl (wn_asc hl) fun n hn => ?_
  obtain ⟨w, hw, rfl⟩ := List.mem_map.mp hn
  exact ⟨w.s, (wished_mem.mp hw).1⟩
theorem choices_few {b : Bk} {l : Lst} (hl : LOk l) (k : Nat) : (choicesIn b l k).length ≤ 1024 := by
  unfold choicesIn singles
  refine Nat.le_trans (List.length_filter_le _ _) (Nat.le_trans (List.length_filter_le _ _) (subs_few (wn_asc hl) ?_ _))
  refine asc_ten hl (wn_asc hl) fun n hn => ?_
  obtain ⟨w, hw, rfl⟩ := List.mem_map.mp hn
  exact ⟨w.s, (wished_mem.mp hw).1⟩
/-- nothing chosen is always a choice -/
theorem choices_nil (b : Bk) (l : Lst) (k : Nat) : [] ∈ choicesIn b l k := by
  unfold choicesIn singles
  refine List.mem_filter.mpr ⟨List.mem_filter.mpr ⟨?_, by unfold apartN; simp⟩, decide_eq_true (show (0 : Int) ≤ k by omega)⟩
  exact (subs_mem str_ord _ _ []).mpr ⟨Nat.zero_le _, by simp, by simp⟩
/-- the best one: its row stands before every other -/
def Best (b : Bk) (l : Lst) (k : Nat) (t : List Str) : Prop := ∃ c0 cs, choicesIn b l k = c0 :: cs ∧ t ∈ c0 :: cs ∧ bcP (bcRow b l t) = PySem.W.minD (bcP (bcRow b l c0)) (cs.map fun u => bcP (bcRow b l u))
@[irreducible] def ctBest (c : Cl) : Ct := fun ss st ok _ => ∃ (b : Bk) (l : Lst) (k : Nat), ss = [.dat (b.d c), .dat (lstD c l), dI (k : Int)] ∧ BOk b ∧ LOk l ∧ 1 ≤ k ∧ k ≤ 10 ∧ ∀ t, Best b l k t → ok (.dat (.tup [.int (worthOf b l t), nsD t])) st
theorem ctBest_eq (c : Cl) {ss : List Sv} {st : Store} {ok : OK} {ex : EK} : ctBest c ss st ok ex = ∃ (b : Bk) (l : Lst) (k : Nat), ss = [.dat (b.d c), .dat (lstD c l), dI (k : Int)] ∧ BOk b ∧ LOk l ∧ 1 ≤ k ∧ k ≤ 10 ∧ ∀ t, Best b l k t → ok (.dat (.tup [.int (worthOf b l t), nsD t])) st := by unfold ctBest; rfl
theorem strs_alike : ∀ a b : List Str, PySem.W.alikeAll (a.map PyData.str) (b.map PyData.str) = true := al_all str_enc
theorem bc_alike (rs : List BcR) : PySem.W.AlikeAll (rs.map bcP) := by
  refine ⟨fun x hx y hy => ?_, fun x hx => ?_⟩
  · obtain ⟨a, _, rfl⟩ := List.mem_map.mp hx
    obtain ⟨c, _, rfl⟩ := List.mem_map.mp hy
    simp [bcP, PySem.W.alike, PySem.W.alikeAll, strs_alike]
  · obtain ⟨a, _, rfl⟩ := List.mem_map.mp hx
    exact fun z => by cases z
theorem bc_depth : ∀ rs : List BcR, PyData.depthAll (rs.map bcP) ≤ 2
  | [] => by simp [PyData.depthAll]
  | r :: rs => by
    have h := bc_depth rs
    rw [List.map_cons, PyData.depthAll]
    have : (bcP r).depth = 2 := by
      simp [bcP, PyData.depth, PyData.depthAll, show PyData.depthAll (r.2.2.map PyData.str) = 0 from dp_all str_enc _]
    omega
end SP
namespace SP
open PySem PySem.Spec PyProof.Rows L2 DD
theorem sub_wished {b : Bk} {l : Lst} (hl : LOk l) {t : List Str} {w : Wi} (hw : w ∈ wished b l) (hn : w.n ∈ t) : w ∈ wished b (subL l t) := by
  obtain ⟨h1, h2⟩ := wished_mem.mp hw
  refine wished_mem.mpr ⟨?_, h2⟩
  unfold subL
  exact List.mem_filterMap.mpr ⟨w.n, hn, by rw [hl.get h1]; rfl⟩
def winsOf (b : Bk) (l : Lst) (t : List Str) : List (Str × Win) := t.map fun n => (n, winOf (windows b l) n)
@[irreducible] def ctWinsOf (c : Cl) : Ct := fun ss st ok _ => ∃ (b : Bk) (l : Lst) (t : List Str), ss = [.dat (b.d c), .dat (lstD c l), .dat (nsD t)] ∧ BOk b ∧ LOk l ∧ In l t ∧ (∀ n ∈ t, n ∈ wn b l) ∧ ok (.dat (dicD winD (winsOf b l t))) st
theorem ctWinsOf_eq (c : Cl) {ss : List Sv} {st : Store} {ok : OK} {ex : EK} : ctWinsOf c ss st ok ex = ∃ (b : Bk) (l : Lst) (t : List Str), ss = [.dat (b.d c), .dat (lstD c l), .dat (nsD t)] ∧ BOk b ∧ LOk l ∧ In l t ∧ (∀ n ∈ t, n ∈ wn b l) ∧ ok (.dat (dicD winD (winsOf b l t))) st := by unfold ctWinsOf; rfl
end SP
namespace SP
open PySem PySem.Spec PyProof.Rows L2 DD
theorem min_le : ∀ (ns : List Int) (n : Int), ns.foldl min n ≤ n ∧ ∀ x ∈ ns, ns.foldl min n ≤ x
  | [], n => ⟨Int.le_refl _, fun x hx => by cases hx⟩
  | a :: ns, n => by
    obtain ⟨h1, h2⟩ := min_le ns (min n a)
    rw [List.foldl_cons]
    refine ⟨Int.le_trans h1 (Int.min_le_left _ _), fun x hx => ?_⟩
    rcases List.mem_cons.mp hx with rfl | hx
    · exact Int.le_trans h1 (Int.min_le_right _ _)
    · exact h2 x hx
theorem ints_alike (rs : List Int) : PySem.W.AlikeAll (rs.map PyData.int) := by
  refine ⟨fun x hx y hy => ?_, fun x hx => ?_⟩
  · obtain ⟨a, _, rfl⟩ := List.mem_map.mp hx
    obtain ⟨c, _, rfl⟩ := List.mem_map.mp hy
    simp [PySem.W.alike]
  · obtain ⟨a, _, rfl⟩ := List.mem_map.mp hx
    exact fun z => by cases z
end SP
namespace SP
open PySem PySem.Spec PyProof.Rows L2 DD
abbrev leD : PyData → PyData → Bool := PySem.W.dataLe false id
theorem leD_of {a b : PyData} (h : PySem.W.dataLt b a = false) : leD a b = true := by
  unfold leD
  rw [PySem.W.dataLe_eq]
  dsimp only [cond, id]
  rw [h]
  rfl
theorem leD_lt {a b : PyData} (h : PySem.W.dataLt a b = true) : leD a b = true := by
  have h2 := data_total (id : PyData → PyData) a b
  rw [Bool.or_eq_true] at h2
  rcases h2 with h2 | h2
  · exact h2
  · rw [PySem.W.dataLe_eq] at h2
    dsimp only [cond, id] at h2
    rw [h] at h2
    cases h2
theorem leD_refl (a : PyData) : leD a a = true := by
  have h2 := data_total (id : PyData → PyData) a a
  rw [Bool.or_self] at h2
  exact h2
theorem minD_least : ∀ (xs : List PyData) (x : PyData), leD (PySem.W.minD x xs) x = true ∧ ∀ y ∈ xs, leD (PySem.W.minD x xs) y = true
  | [], x => ⟨leD_refl x, fun y hy => by cases hy⟩
  | a :: xs, x => by
    have e : PySem.W.minD x (a :: xs) = PySem.W.minD (if PySem.W.dataLt a x = true then a else x) xs := rfl
    rw [e]
    obtain ⟨h1, h2⟩ := minD_least xs (if PySem.W.dataLt a x = true then a else x)
    by_cases c : PySem.W.dataLt a x = true
    · rw [if_pos c] at h1 h2 ⊢
      refine ⟨data_trans _ _ _ _ h1 (leD_lt c), fun y hy => ?_⟩
      rcases List.mem_cons.mp hy with rfl | hy
      · exact h1
      · exact h2 y hy
    · rw [if_neg c] at h1 h2 ⊢
      rw [Bool.not_eq_true] at c
      refine ⟨h1, fun y hy => ?_⟩
      rcases List.mem_cons.mp hy with rfl | hy
      · exact data_trans _ _ _ _ h1 (leD_of c)
      · exact h2 y hy
theorem best_least {b : Bk} {l : Lst} {k : Nat} {t : List Str} (h : Best b l k t) : t ∈ choicesIn b l k ∧ ∀ u ∈ choicesIn b l k, leD (bcP (bcRow b l t)) (bcP (bcRow b l u)) = true := by
  obtain ⟨c0, cs, hc, ht, hm⟩ := h
  rw [hc]
  refine ⟨ht, fun u hu => ?_⟩
  rw [hm]
  obtain ⟨h1, h2⟩ := minD_least (cs.map fun u => bcP (bcRow b l u)) (bcP (bcRow b l c0))
  rcases List.mem_cons.mp hu with rfl | hu
  · exact h1
  · exact h2 _ (List.mem_map.mpr ⟨u, hu, rfl⟩)
theorem bcP_inj {b b' : Bk} {l l' : Lst} {t u : List Str} (h : bcP (bcRow b l t) = bcP (bcRow b' l' u)) : t = u := by
  unfold bcP bcRow at h
  simp only [PyData.tuple.injEq, List.cons.injEq, and_true] at h
  have h3 : t.map PyData.str = u.map PyData.str := h.2.2
  have key : ∀ t u : List Str, t.map PyData.str = u.map PyData.str → t = u := by
    intro t
    induction t with
    | nil => intro u h; cases u with | nil => rfl | cons a u => cases h
    | cons a t ih =>
      intro u h
      cases u with
      | nil => cases h
      | cons c u =>
        rw [List.map_cons, List.map_cons] at h
        obtain ⟨h1, h2⟩ := List.cons.inj h
        cases h1
        rw [ih u h2]
  exact key t u h3
theorem best_one {b : Bk} {l : Lst} {k : Nat} {t u : List Str} (h : Best b l k t) (h' : Best b l k u) : t = u := by
  obtain ⟨c0, cs, hc, _, hm⟩ := h
  obtain ⟨c0', cs', hc', _, hm'⟩ := h'
  rw [hc] at hc'
  cases hc'
  exact bcP_inj (hm.trans hm'.symm)
end SP
namespace SP
open PySem PySem.Spec PyProof.Rows L2 DD
end SP
namespace SP
open PySem PySem.Spec PyProof.Rows L2 DD
theorem winOf_mem {ws : List (Str × Win)} (nd : (ws.map (·.1)).Nodup) {x : Str × Win} (hx : x ∈ ws) : winOf ws x.1 = x.2 := by
  unfold winOf
  rw [look_mem nd hx]
  rfl
def btRows (ws : List (Str × Win)) : List Bn := (ws.map fun x => ((x.2.1, x.1) : Bn)).mergeSort bnLe
def btn (ws : List (Str × Win)) : List Str := (btRows ws).map (·.2)
theorem bt_perm (ws : List (Str × Win)) : (btRows ws).Perm (ws.map fun x => ((x.2.1, x.1) : Bn)) := List.mergeSort_perm _ _
theorem btn_perm (ws : List (Str × Win)) : (btn ws).Perm (ws.map (·.1)) := by
  have := (bt_perm ws).map (·.2)
  rw [List.map_map] at this
  exact this
@[irreducible] def ctBtn : Ct := fun ss st ok _ => ∃ ws : List (Str × Win), ss = [.dat (dicD winD ws), .dat (dicD winD ws)] ∧ ws.length ≤ 10 ∧ (ws.map (·.1)).Nodup ∧ ok (.dat (namesD (btn ws))) st
theorem ctBtn_eq {ss : List Sv} {st : Store} {ok : OK} {ex : EK} : ctBtn ss st ok ex = ∃ ws : List (Str × Win), ss = [.dat (dicD winD ws), .dat (dicD winD ws)] ∧ ws.length ≤ 10 ∧ (ws.map (·.1)).Nodup ∧ ok (.dat (namesD (btn ws))) st := by unfold ctBtn; rfl
/-- open_at, its names a tuple or a dict -/
def ctOpenW : Ct := fun ss st ok ex => ctOpen ss st ok ex ∨ ∃ (ws : List (Str × Win)) (m : Int), ss = [.dat (dicD winD ws), .dat (dicD winD ws), dI m] ∧ ws.length ≤ 10 ∧ (ws.map (·.1)).Nodup ∧ ok (.dat (namesD (openAt ws (ws.map (·.1)) m))) st
def freeR (ws : List (Str × Win)) (p : Plan) (w : Win) : Nat := ((List.range 11).find? fun r : Nat => (onRecW ws p (r : Int) w).isEmpty).getD 0
def seatStep (ws : List (Str × Win)) (p : Plan) (n : Str) : Plan := p ++ [(n, (freeR ws p (winOf ws n) : Int))]
structure SInv (pre : List Str) (p : Plan) : Prop where
  ns : p.map (·.1) = pre
  lt : ∀ x ∈ p, 0 ≤ x.2 ∧ x.2 < (p.length : Int)
theorem SInv.len {pre : List Str} {p : Plan} (h : SInv pre p) : p.length = pre.length := by
  rw [← h.ns, List.length_map]
theorem SInv.free {pre : List Str} {p : Plan} (h : SInv pre p) (hl : p.length ≤ 10) (ws : List (Str × Win)) (w : Win) : freeR ws p w ≤ p.length ∧ onRecW ws p (freeR ws p w : Int) w = [] ∧ ∀ r' : Nat, r' < freeR ws p w → onRecW ws p (r' : Int) w ≠ [] := by
  have hout : onRecW ws p (p.length : Int) w = [] := on_out fun x hx => (h.lt x hx).2
  have key : ∃ r, (List.range 11).find? (fun r : Nat => (onRecW ws p (r : Int) w).isEmpty) = some r := by
    cases e : (List.range 11).find? (fun r : Nat => (onRecW ws p (r : Int) w).isEmpty) with
    | some r => exact ⟨r, rfl⟩
    | none =>
      have := List.find?_eq_none.mp e p.length (List.mem_range.mpr (by omega))
      rw [hout] at this
      exact absurd rfl this
  obtain ⟨r, e⟩ := key
  have hr : freeR ws p w = r := by unfold freeR; rw [e]; rfl
  rw [List.find?_range_eq_some] at e
  obtain ⟨e1, e2, e3⟩ := e
  rw [hr]
  have h0 : ∀ r' : Nat, r' < r → onRecW ws p (r' : Int) w ≠ [] := fun r' hr' z => by
    have := e3 r' hr'
    rw [z] at this
    cases this
  refine ⟨?_, ?_, h0⟩
  · rcases Nat.lt_or_ge p.length r with c | c
    · exact absurd hout (h0 _ c)
    · exact c
  · cases z : onRecW ws p (r : Int) w with
    | nil => rfl
    | cons a as => rw [z] at e1; cases e1
theorem SInv.step {pre : List Str} {p : Plan} (h : SInv pre p) (hl : p.length ≤ 10) (ws : List (Str × Win)) (n : Str) : SInv (pre ++ [n]) (seatStep ws p n) := by
  unfold seatStep
  refine ⟨by rw [List.map_append, h.ns]; rfl, fun x hx => ?_⟩
  rw [List.length_append, List.length_singleton]
  rcases List.mem_append.mp hx with hx | hx
  · have := h.lt x hx
    omega
  · rw [List.mem_singleton.mp hx]
    have := (h.free hl ws (winOf ws n)).1
    dsimp only
    omega
theorem SInv.ok {ws : List (Str × Win)} {pre : List Str} {p : Plan} (h : SInv pre p) (nd : pre.Nodup) (hl : pre.length ≤ 10) (hs : ∀ n ∈ pre, n ∈ ws.map (·.1)) : POk p ∧ ∀ x ∈ p, (look ws x.1).isSome := by
  refine ⟨⟨by rw [h.ns]; exact nd, by rw [h.len]; exact hl⟩, fun x hx => ?_⟩
  obtain ⟨a, ha⟩ := look_is (hs x.1 (by rw [← h.ns]; exact List.mem_map.mpr ⟨x, hx, rfl⟩))
  rw [ha]
  rfl
theorem wins_keys (b : Bk) (l : Lst) (t : List Str) : (winsOf b l t).map (·.1) = t := by
  unfold winsOf
  rw [List.map_map]
  exact List.map_id _
theorem wins_len (b : Bk) (l : Lst) (t : List Str) : (winsOf b l t).length = t.length := by
  unfold winsOf
  rw [List.length_map]
theorem asc_nodup {t : List Str} (h : ascN t) : t.Nodup := h.imp fun {a b} k e => by subst e; rw [str_ord.ir] at k; cases k
theorem wins_nd {b : Bk} {l : Lst} {t : List Str} (h : In l t) : ((winsOf b l t).map (·.1)).Nodup := by
  rw [wins_keys]
  exact asc_nodup h.asc
theorem wins_at {b : Bk} {l : Lst} {t : List Str} (h : t.Nodup) {n : Str} (hn : n ∈ t) : winOf (winsOf b l t) n = winOf (windows b l) n := by
  have hx : (n, winOf (windows b l) n) ∈ winsOf b l t := List.mem_map.mpr ⟨n, hn, rfl⟩
  have nd : ((winsOf b l t).map (·.1)).Nodup := by rw [wins_keys]; exact h
  exact winOf_mem nd hx
def busyStep (ws : List (Str × Win)) (ns : List Str) (acc : Int × List Str) (n : Str) : Int × List Str :=
  if acc.2.length < (openAt ws ns (winOf ws n).1).length then ((winOf ws n).1, openAt ws ns (winOf ws n).1) else acc
def busyOf (ws : List (Str × Win)) : Int × List Str := (btn ws).foldl (busyStep ws (ws.map (·.1))) (0, [])
def busyD (r : Int × List Str) : Dt := .tup [.int r.1, nsD r.2]
@[irreducible] def ctBusiest (c : Cl) : Ct := fun ss st ok _ => ∃ (b : Bk) (l : Lst) (t : List Str), ss = [.dat (b.d c), .dat (lstD c l), .dat (nsD t)] ∧ BOk b ∧ LOk l ∧ In l t ∧ (∀ n ∈ t, n ∈ wn b l) ∧ ok (.dat (busyD (busyOf (winsOf b l t)))) st
theorem ctBusiest_eq (c : Cl) {ss : List Sv} {st : Store} {ok : OK} {ex : EK} : ctBusiest c ss st ok ex = ∃ (b : Bk) (l : Lst) (t : List Str), ss = [.dat (b.d c), .dat (lstD c l), .dat (nsD t)] ∧ BOk b ∧ LOk l ∧ In l t ∧ (∀ n ∈ t, n ∈ wn b l) ∧ ok (.dat (busyD (busyOf (winsOf b l t)))) st := by unfold ctBusiest; rfl
theorem open_mem {ws : List (Str × Win)} {ns : List Str} {m : Int} {n : Str} : n ∈ openAt ws ns m ↔ n ∈ ns ∧ (winOf ws n).1 ≤ m ∧ m < (winOf ws n).2 := by
  unfold openAt
  rw [List.mem_filter, Bool.and_eq_true, decide_eq_true_iff, decide_eq_true_iff]
theorem on_some {ws : List (Str × Win)} {p : Plan} {r : Int} {w : Win} (h : onRecW ws p r w ≠ []) : ∃ x ∈ p, x.2 = r := by
  cases e : onRecW ws p r w with
  | nil => exact absurd e h
  | cons o os =>
    have ho : o ∈ onRecW ws p r w := by rw [e]; exact List.mem_cons_self
    unfold onRecW at ho
    have h1 := (List.mem_filter.mp (List.mem_filter.mp ho).1).2
    exact ⟨(o, r), look_some (of_decide_eq_true h1), rfl⟩
theorem free_there {ws : List (Str × Win)} {p : Plan} {k : Nat} (hk : p.length < k) (n : Str) : ∃ r, freeAt ws p k n = some r := by
  cases e : freeAt ws p k n with
  | some r => exact ⟨r, rfl⟩
  | none =>
    exfalso
    unfold freeAt at e
    rw [List.find?_eq_none] at e
    have nd : ((List.range k).map fun r : Nat => (r : Int)).Nodup := by
      unfold List.Nodup
      rw [List.pairwise_map]
      exact (List.nodup_range (n := k)).imp fun {a b} h z => h (by omega)
    have := nd.length_le_of_subset (l₂ := p.map (·.2)) (fun r hr => by
      obtain ⟨i, hi, rfl⟩ := List.mem_map.mp hr
      have hne : onRec ws p (i : Int) n ≠ [] := fun z => by
        have := e i hi
        rw [z] at this
        exact this rfl
      obtain ⟨x, hx, hx2⟩ := on_some hne
      exact List.mem_map.mpr ⟨x, hx, hx2⟩)
    rw [List.length_map, List.length_map, List.length_range] at this
    omega
theorem missed_none {b : Bk} {l : Lst} (hl : LOk l) {k : Nat} : ∀ (es pre : List Ep), wishes b l = pre ++ es → pre.length + es.length ≤ k → missed b l k es (pre.foldl (takeStep b l k) []) = []
  | [], pre, _, _ => rfl
  | e :: es, pre, hw, hk => by
    obtain ⟨inv, _⟩ := pinv_pre (k := k) hl hw
    have hlt : (pre.foldl (takeStep b l k) []).length < k := by
      have := inv.len
      rw [List.length_cons] at hk
      omega
    obtain ⟨x, hx, hxe⟩ := wishes_mem.mp (show e ∈ wishes b l by rw [hw]; simp)
    have hs : x.n ∈ sendsOf b l e := sends_mem.mpr ⟨x, hx, rfl, hxe⟩
    cases hse : sendsOf b l e with
    | nil => rw [hse] at hs; cases hs
    | cons n ns =>
      obtain ⟨r, hr⟩ := free_there (ws := windows b l) hlt n
      have hff : firstFree (windows b l) (pre.foldl (takeStep b l k) []) k (sendsOf b l e) = some (n, (r : Int)) := by
        rw [hse]
        unfold firstFree
        rw [hr]
      rw [missed, hff]
      dsimp only
      have := missed_none (k := k) hl es (pre ++ [e]) (by rw [List.append_assoc]; exact hw) (by rw [List.length_append, List.length_singleton]; rw [List.length_cons] at hk; omega)
      rw [List.foldl_append, List.foldl_cons, List.foldl_nil] at this
      have e1 : takeStep b l k (pre.foldl (takeStep b l k) []) e = pre.foldl (takeStep b l k) [] ++ [(n, (r : Int))] := by
        show addTo _ (firstFree (windows b l) (pre.foldl (takeStep b l k) []) k (sendsOf b l e)) = _
        rw [hff]
        rfl
      rw [e1] at this
      exact this
theorem lost_none {b : Bk} {l : Lst} (hl : LOk l) {k : Nat} (hk : (wishes b l).length ≤ k) : lost b l k = [] := by
  rw [← missed_lost hl]
  have := missed_none (k := k) hl (wishes b l) [] rfl (by simpa using hk)
  rw [show missed b l k (wishes b l) [] = [] from this]
  rfl
@[irreducible] def ctFewOwn (c : Cl) : Ct := fun ss st ok _ => ∃ (b : Bk) (l : Lst), ss = [.dat (b.d c), .dat (lstD c l)] ∧ BOk b ∧ LOk l ∧ ∀ k : Nat, 1 ≤ k → k ≤ 10 → lost b l k = [] → (∀ j : Nat, 1 ≤ j → j < k → lost b l j ≠ []) → ok (dI (k : Int)) st
theorem ctFewOwn_eq (c : Cl) {ss : List Sv} {st : Store} {ok : OK} {ex : EK} : ctFewOwn c ss st ok ex = ∃ (b : Bk) (l : Lst), ss = [.dat (b.d c), .dat (lstD c l)] ∧ BOk b ∧ LOk l ∧ ∀ k : Nat, 1 ≤ k → k ≤ 10 → lost b l k = [] → (∀ j : Nat, 1 ≤ j → j < k → lost b l j ≠ []) → ok (dI (k : Int)) st := by unfold ctFewOwn; rfl
theorem foldl_max (cs : List Int) : ∀ c : Int, c ≤ cs.foldl max c ∧ (∀ x ∈ cs, x ≤ cs.foldl max c) ∧ cs.foldl max c ∈ c :: cs := by
  induction cs with
  | nil => exact fun c => ⟨Int.le_refl _, (fun x hx => by cases hx), List.mem_cons_self⟩
  | cons a cs ih =>
    intro c
    obtain ⟨h1, h2, h3⟩ := ih (max c a)
    rw [List.foldl_cons]
    refine ⟨Int.le_trans (Int.le_max_left _ _) h1, fun x hx => ?_, ?_⟩
    · rcases List.mem_cons.mp hx with rfl | hx
      · exact Int.le_trans (Int.le_max_right _ _) h1
      · exact h2 x hx
    · rcases List.mem_cons.mp h3 with h3 | h3
      · rw [h3]
        rcases Int.le_total c a with q | q
        · rw [Int.max_eq_right q]
          exact List.mem_cons_of_mem _ List.mem_cons_self
        · rw [Int.max_eq_left q]
          exact List.mem_cons_self
      · exact List.mem_cons_of_mem _ (List.mem_cons_of_mem _ h3)
end SP
namespace SP
open PySem PySem.Spec PyProof.Rows L2 DD
structure SmallT (x : Str × Snd) : Prop where
  s : SmallS x
  b : x.2.begin_ ≤ 39
  e : x.2.end_ ≤ 58
  w : x.2.begin_ + 5 ≤ x.2.end_
  sh : x.2.show_ ∈ threeW
structure SmallR (r : Rul) : Prop where
  b : r.before ≤ 3
  a : r.after ≤ 5
  p : r.priority ≤ 3
@[irreducible] def ctLRulesB : Ct := fun ss st ok _ => ∃ (p q : Addr) (a i : Int) (xs : List Int) (st0 : Store) (m : Int), ss = [.own p, dI m] ∧ st = (p, obH q a i) :: (q, obX xs) :: st0 ∧ xs.length ≤ 63 ∧ 0 ≤ m ∧ m ≤ 6 ∧
  ∀ (t : List Rul) a' i' xs', t.length ≤ m.toNat → (∀ x ∈ t, ROk x) → (∀ x ∈ t, SmallR x) → xs'.length ≤ 63 → ok (.dat (.lst (t.map rulT))) ((p, obH q a' i') :: (q, obX xs') :: st0)
theorem ctLRulesB_eq {ss : List Sv} {st : Store} {ok : OK} {ex : EK} : ctLRulesB ss st ok ex = ∃ (p q : Addr) (a i : Int) (xs : List Int) (st0 : Store) (m : Int), ss = [.own p, dI m] ∧ st = (p, obH q a i) :: (q, obX xs) :: st0 ∧ xs.length ≤ 63 ∧ 0 ≤ m ∧ m ≤ 6 ∧
  ∀ (t : List Rul) a' i' xs', t.length ≤ m.toNat → (∀ x ∈ t, ROk x) → (∀ x ∈ t, SmallR x) → xs'.length ≤ 63 → ok (.dat (.lst (t.map rulT))) ((p, obH q a' i') :: (q, obX xs') :: st0) := by unfold ctLRulesB; rfl
end SP
namespace SP
open PySem PySem.Spec PyProof.Rows L2 DD
theorem win_lo {b : Bk} {l : Lst} (hb : BOk b) (hl : LOk l) {w : Wi} (hw : w ∈ wished b l) : 0 ≤ w.win.1 ∧ w.win.1 ≤ w.s.begin_ ∧ w.win.1 < w.win.2 := by
  obtain ⟨h1, h2⟩ := wished_mem.mp hw
  have hs := (hl.ok _ h1).2
  have hr : w.r ∈ b.rules := by
    unfold ruleFor ruleOf at h2
    split at h2
    · cases h2
    · exact List.mem_of_find?_eq_some h2
  have hr := hb.ok _ hr
  have := hs.b0
  have := hr.b0
  refine ⟨?_, ?_, win_pos hb hl hw⟩ <;> (unfold Wi.win; dsimp only at *; split <;> omega)
theorem nsD_pl {n : Nat} (t : List Str) (h : t.length ≤ 1000) : Pl (n + 2) (nsD t) := by
  refine .tup (fun d hd => ?_) (by rw [List.length_map, sizeLine_eq]; omega)
  obtain ⟨z, _, rfl⟩ := List.mem_map.mp hd
  exact .str _ _
end SP
namespace SP
open PySem PySem.Spec PyProof.Rows L2 DD
def Rul.norm (r : Rul) : Rul := { r with show_ := "", first := 0, last := 0 }
def Wi.norm (w : Wi) : Wi := ⟨w.n, w.s, w.r.norm⟩
def nW (b : Bk) (l : Lst) : List Wi := (wished b l).map Wi.norm
def Same (P : Snd → Prop) (b b' : Bk) : Prop := ∀ s, P s → (ruleFor b s).map Rul.norm = (ruleFor b' s).map Rul.norm
theorem fm_congr {α β : Type} {f g : α → Option β} : ∀ {l : List α}, (∀ x ∈ l, f x = g x) → l.filterMap f = l.filterMap g
  | [], _ => rfl
  | a :: l, h => by
    rw [List.filterMap_cons, List.filterMap_cons, h a List.mem_cons_self, fm_congr fun x hx => h x (List.mem_cons_of_mem _ hx)]
theorem Same.nW {P : Snd → Prop} {b b' : Bk} (h : Same P b b') {l : Lst} (hl : ∀ x ∈ l, P x.2) : SP.nW b l = SP.nW b' l := by
  unfold SP.nW wished
  rw [List.map_filterMap, List.map_filterMap]
  refine fm_congr fun x hx => ?_
  have e := h x.2 (hl x hx)
  rw [Option.map_map, Option.map_map]
  have key : ∀ o : Option Rul, o.map (Wi.norm ∘ fun r => (⟨x.1, x.2, r⟩ : Wi)) = (o.map Rul.norm).map fun r => (⟨x.1, x.2, r⟩ : Wi) := fun o => by cases o <;> rfl
  rw [key, key, e]
theorem Same.more {P : Snd → Prop} {b b' : Bk} (h : Same P b b') (m : Int) (hs : b.seen = b'.seen) : Same P (b.more m) (b'.more m) := by
  intro s hp
  have key : ∀ b : Bk, ruleFor (b.more m) s = (ruleFor b s).map fun r => r.more m := fun b => by
    unfold ruleFor ruleOf Bk.more
    show (if (s.show_, s.episode) ∈ b.seen then none else (b.rules.map fun r => r.more m).find? _) = _
    rw [List.find?_map]
    split
    · rfl
    · rfl
  have key2 : ∀ o : Option Rul, (o.map fun r => r.more m).map Rul.norm = (o.map Rul.norm).map fun r => r.more m := fun o => by cases o <;> rfl
  rw [key, key, key2, key2, h s hp]
theorem Same.seen2 {P : Snd → Prop} {b b' : Bk} (h : Same P b b') (es : List Ep) : Same P (b.seen2 es) (b'.seen2 es) := by
  intro s hp
  have key : ∀ b : Bk, ruleFor (b.seen2 es) s = if s.ep ∈ es then none else ruleFor b s := fun b => by
    unfold ruleFor ruleOf Bk.seen2
    dsimp only
    show (if s.ep ∈ b.seen ++ es then none else _) = if s.ep ∈ es then none else if s.ep ∈ b.seen then none else _
    by_cases z : s.ep ∈ es
    · rw [if_pos z, if_pos (List.mem_append_right _ z)]
    · rw [if_neg z]
      by_cases z2 : s.ep ∈ b.seen
      · rw [if_pos z2, if_pos (List.mem_append_left _ z2)]
      · rw [if_neg z2, if_neg (fun q => (List.mem_append.mp q).elim z2 z)]
  rw [key, key]
  split
  · rfl
  · exact h s hp
section
variable {b b' : Bk} {l : Lst}
theorem n_rows (b : Bk) (l : Lst) : (wished b l).map Wi.row = (nW b l).map Wi.row := by unfold nW; rw [List.map_map]; rfl
theorem n_wishes (h : nW b l = nW b' l) : wishes b l = wishes b' l := by
  unfold wishes sortedRows
  rw [n_rows, n_rows, h]
theorem n_windows (h : nW b l = nW b' l) : windows b l = windows b' l := by
  have e : ∀ b, windows b l = (nW b l).map fun x => (x.n, x.win) := fun b => by unfold windows nW; rw [List.map_map]; rfl
  rw [e, e, h]
theorem n_sends (h : nW b l = nW b' l) (ep : Ep) : sendsOf b l ep = sendsOf b' l ep := by
  have e : ∀ b, ((wished b l).filter fun x => decide (x.s.ep = ep)).map Wi.bn = ((nW b l).filter fun x => decide (x.s.ep = ep)).map Wi.bn := fun b => by
    unfold nW
    rw [List.filter_map, List.map_map]
    rfl
  unfold sendsOf bnOf
  rw [e, e, h]
theorem n_own (h : nW b l = nW b' l) (k : Nat) : ownPlan b l k = ownPlan b' l k := by
  unfold ownPlan taken
  rw [n_wishes h]
  congr 2
  funext p e
  unfold takeStep
  rw [n_windows h, n_sends h]
theorem n_lost (h : nW b l = nW b' l) (k : Nat) : lost b l k = lost b' l k := by
  unfold lost recorded
  rw [n_wishes h, n_own h]
theorem n_find (b : Bk) (l : Lst) (n : Str) : (wiOf b l n).map Wi.norm = (nW b l).find? fun x => decide (x.n = n) := by
  unfold wiOf nW
  rw [List.find?_map]
  rfl
theorem n_whole (h : nW b l = nW b' l) (p : Plan) (d : Dl) : wholeOf b l p d = wholeOf b' l p d := by
  unfold wholeOf
  refine List.filter_congr fun n _ => ?_
  have e : ∀ b, (match wiOf b l n with
    | some x => inWin x ((look d n).getD 0)
    | none => false) = match (wiOf b l n).map Wi.norm with
    | some x => inWin x ((look d n).getD 0)
    | none => false := fun b => by cases wiOf b l n <;> rfl
  refine (e b).trans (Eq.trans ?_ (e b').symm)
  rw [n_find, n_find, h]
theorem n_sure (h : nW b l = nW b' l) (k : Nat) : allSure b l k = allSure b' l k := by
  unfold allSure surely
  rw [n_own h, n_whole h]
end
theorem Same.least {P : Snd → Prop} {b b' : Bk} (h : Same P b b') (hs : b.seen = b'.seen) {l : Lst} (hl : ∀ x ∈ l, P x.2) (k : Nat) : leastMore b l k = leastMore b' l k := by
  unfold leastMore
  rw [n_lost (h.nW hl)]
  congr 1
  funext m
  have e := (h.more (m : Int) hs).nW hl
  rw [n_sure e, n_lost e]
def hit (sh : Str) (e : Int) (r : Rul) : Bool := decide (r.show_ = sh) && (decide (r.first ≤ e) && decide (e ≤ r.last))
def Eqv (A B : List Rul) : Prop := ∀ sh e, (A.find? (hit sh e)).map Rul.norm = (B.find? (hit sh e)).map Rul.norm
theorem Eqv.nil : Eqv [] [] := fun _ _ => rfl
theorem Eqv.app {A B C D : List Rul} (h : Eqv A B) (k : Eqv C D) : Eqv (A ++ C) (B ++ D) := fun sh e => by
  rw [List.find?_append, List.find?_append]
  have h1 := h sh e
  have h2 := k sh e
  cases ha : A.find? (hit sh e) with
  | some x =>
    rw [ha] at h1
    cases hb : B.find? (hit sh e) with
    | some y => rw [hb] at h1; exact h1
    | none => rw [hb] at h1; cases h1
  | none =>
    rw [ha] at h1
    cases hb : B.find? (hit sh e) with
    | some y => rw [hb] at h1; cases h1
    | none => exact h2
end SP
namespace SP
open PySem PySem.Spec PyProof.Rows L2 DD
def ctSeen2L (c : Cl) : Ct := fun ss st ok ex => ctSeen2 c ss st ok ex ∨ ∃ (b : Bk) (es : List Ep), ss = [.dat (b.d c), .dat (.lst (es.map epD))] ∧ BOk b ∧ b.seen.length + es.length ≤ 63 ∧ ok (.dat ((b.seen2 es).d c)) st
def ctSubs2 : Ct := fun ss st ok ex => ctSubs ss st ok ex ∨ ctSubsets ss st ok ex
end SP
namespace UU
open PySem PySem.Spec PyProof.Rows L2 DD
section
variable {P : Program} {w : World} {A : Around} {E : Value → Shared → Prop}
theorem Rws.keep {Z : List Key → Addr → Prop} {h h' : Heap} {a : Addr} {ks : List (List Key)} {es : Array (Int × Value)} {ep : Nat} {t : SetTable} (R : Rws P w Z h a ks es ep t) (ha : ∀ o, h.get? a = some o → h'.get? a = some o) (ht : ∀ k b, Z k b → TupAt P w h' k b) : Rws P w Z h' a ks es ep t := by
  obtain ⟨o, ho, r⟩ := R.obj
  exact ⟨⟨o, ha o ho, r⟩, paired_mono (fun k e ⟨b, he, _, hz⟩ => ⟨b, he, ht k b hz, hz⟩) R.ent, R.tab, R.nd, R.room, R.few⟩
end
end UU
namespace UU
open PySem PySem.Spec PyProof.Rows L2 DD
end UU
namespace DD
open PySem PySem.Spec PyProof.Rows L2 UU
end DD
namespace DD
open PySem PySem.Spec PyProof.Rows L2
end DD
namespace DD
open PySem PySem.Spec PyProof.Rows L2
/-- two ways to read one statement -/
def dOrS (t u : DS) : DS := fun Δ st N => t Δ st N ∨ u Δ st N
theorem seither {X : Cx} {W : WX} {e : Stmt} {t u : DS} (h1 : PSd X W e t) (h2 : PSd X W e u) : PSd X W e (dOrS t u) := ⟨fun pins s σ H D J h => by
  obtain ⟨Δ, st, I, N, wd, sl, h, en⟩ := h
  rcases h with h | h
  · exact h1.run pins s σ H D J ⟨Δ, st, I, N, wd, sl, h, en⟩
  · exact h2.run pins s σ H D J ⟨Δ, st, I, N, wd, sl, h, en⟩⟩
end DD
namespace PySem.SeqAt
open AutoSeq1 (wpAny_loadPart')
open MeetsSeq MeetsSeq2 MeetsSeq3 SeqRoads2
end PySem.SeqAt
namespace DD
open PySem PySem.Spec PyProof.Rows L2
end DD
namespace SP
open PySem PySem.Spec PyProof.Rows L2 DD
theorem ki_self {p : Plan} (hp : (p.map (·.1)).Nodup) : eqDI (kiI p) (kiI p) = true := by
  unfold eqDI
  rw [Bool.and_eq_true, beq_self_eq_true]
  refine ⟨rfl, List.all_eq_true.mpr fun x hx => decide_eq_true ?_⟩
  unfold kiI at hx
  obtain ⟨y, hy, rfl⟩ := List.mem_map.mp hx
  dsimp only
  rw [look_ki]
  exact look_mem hp hy
theorem eps_pl {n : Nat} (es : List Ep) (h : es.length ≤ 1000) : Pl (n + 3) (.lst (es.map epD)) := by
  refine .lst (fun d hd => ?_) (by rw [List.length_map, sizeLine_eq]; omega)
  obtain ⟨e, _, rfl⟩ := List.mem_map.mp hd
  refine .tup (fun d hd => ?_) (by show 2 ≤ sizeLine; rw [sizeLine_eq]; decide)
  simp only [List.mem_cons, List.not_mem_nil, or_false] at hd
  rcases hd with rfl | rfl
  · exact .str _ _
  · exact .int _ _
theorem Same.symm {P : Snd → Prop} {b b' : Bk} (h : Same P b b') : Same P b' b := fun s hp => (h s hp).symm
theorem rounds_nd {l : Lst} (hl : LOk l) (k : Nat) : ∀ (n : Nat) (b : Bk), ∀ q ∈ roundsF l k n b, (q.map (·.1)).Nodup
  | 0, _, q, h => by unfold roundsF at h; cases h
  | n + 1, b, q, h => by
    unfold roundsF at h
    split at h
    · cases h
    · rcases List.mem_cons.mp h with rfl | h
      · exact own_nd hl k
      · exact rounds_nd hl k n _ q h
end SP
namespace SP
open PySem PySem.Spec PyProof.Rows L2 DD
def mapS (f : Snd → Snd) (l : Lst) : Lst := l.map fun x => (x.1, f x.2)
theorem mapS_keys (f : Snd → Snd) (l : Lst) : (mapS f l).map (·.1) = l.map (·.1) := by
  unfold mapS
  rw [List.map_map]
  rfl
theorem mapS_look (f : Snd → Snd) (l : Lst) (n : Str) : look (mapS f l) n = (look l n).map f := by
  unfold look mapS
  rw [List.find?_map, Option.map_map, Option.map_map]
  rfl
theorem wi_rule {b : Bk} {l : Lst} {w : Wi} (hw : w ∈ wished b l) : w.r ∈ b.rules := by
  obtain ⟨_, h2⟩ := wished_mem.mp hw
  unfold ruleFor ruleOf at h2
  split at h2
  · cases h2
  · exact List.mem_of_find?_eq_some h2
end SP
namespace SP
open PySem PySem.Spec PyProof.Rows L2 DD
theorem way_mem {b : Bk} {l : Lst} (hl : LOk l) {k : Nat} {e : Ep} {n x : Str} {r : Int} (h : x ∈ onRec (windows b l) (planBefore b l k e) r n) : look (ownPlan b l k) x = some r ∧ overlap (winOf (windows b l) x) (winOf (windows b l) n) = true := by
  unfold onRec onRecW at h
  obtain ⟨h1, h2⟩ := List.mem_filter.mp h
  obtain ⟨_, h3⟩ := List.mem_filter.mp h1
  have h4 := look_in (of_decide_eq_true h3)
  unfold planBefore at h4
  exact ⟨look_mem (own_nd hl k) (List.mem_filter.mp h4).1, h2⟩
end SP
namespace SP
open PySem PySem.Spec PyProof.Rows L2 DD
theorem sortN_asc {ns : List Str} (nd : ns.Nodup) : ascN (sortN ns) := by
  have h1 := sortN_pw ns
  have h2 : (sortN ns).Nodup := (sortN_perm ns).nodup_iff.mpr nd
  exact (h1.and h2).imp fun {a b} h => by
    unfold strLt
    refine decide_eq_true ?_
    rcases List.le_iff_lt_or_eq.mp (of_decide_eq_true h.1) with k | k
    · exact k
    · exact absurd (str_ext k) h.2
theorem miss_len (b : Bk) (l : Lst) (k : Nat) : ∀ (es : List Ep) (p : Plan), (es.foldl (takeStep b l k) p).length + (missed b l k es p).length = p.length + es.length
  | [], p => rfl
  | e :: es, p => by
    rw [List.foldl_cons, missed]
    have ih := miss_len b l k es
    cases hf : firstFree (windows b l) p k (sendsOf b l e) with
    | none =>
      have e1 : takeStep b l k p e = p := by unfold takeStep; rw [hf]; rfl
      have := ih p
      rw [e1, List.length_cons]
      simp only [List.length_cons]
      omega
    | some x =>
      have e1 : takeStep b l k p e = p ++ [x] := by unfold takeStep; rw [hf]; rfl
      have := ih (p ++ [x])
      rw [List.length_append, List.length_singleton] at this
      rw [e1, List.length_cons]
      dsimp only
      omega
theorem own_lost_len {b : Bk} {l : Lst} (hl : LOk l) (k : Nat) : (ownPlan b l k).length + (lost b l k).length = (wishes b l).length := by
  rw [own_perm hl, ← missed_lost hl, List.length_map]
  have := miss_len b l k (wishes b l) []
  rw [List.length_nil, Nat.zero_add] at this
  exact this
theorem own_asc {b : Bk} {l : Lst} (hl : LOk l) (k : Nat) : ascN ((ownPlan b l k).map (·.1)) := by
  rw [own_names]
  exact sortN_asc (taken_inv hl k).nd
theorem own_wn {b : Bk} {l : Lst} (hl : LOk l) {k : Nat} : ∀ n ∈ (ownPlan b l k).map (·.1), n ∈ wn b l := fun n hn => by
  obtain ⟨x, hx, rfl⟩ := List.mem_map.mp hn
  obtain ⟨w, hw, e, _⟩ := own_wish hl hx
  exact List.mem_map.mpr ⟨w, hw, e⟩
theorem own_in {b : Bk} {l : Lst} (hl : LOk l) (k : Nat) : In l ((ownPlan b l k).map (·.1)) := ⟨own_asc hl k, fun n hn => by
  obtain ⟨w, hw, rfl⟩ := List.mem_map.mp (own_wn hl n hn)
  exact List.mem_map.mpr ⟨(w.n, w.s), (wished_mem.mp hw).1, rfl⟩⟩
end SP
namespace SP
open PySem PySem.Spec PyProof.Rows L2 DD
structure Seats (b : Bk) (l : Lst) (t : List Str) (p : Plan) : Prop where
  perm : (p.map (·.1)).Perm t
  low : ∀ x ∈ p, 0 ≤ x.2
  few : ∀ x ∈ p, x.2 + 1 ≤ mostAt (windows b l) t
  quiet : ∀ x ∈ p, ∀ y ∈ p, x.1 ≠ y.1 → x.2 = y.2 → overlap (winOf (windows b l) x.1) (winOf (windows b l) y.1) = false
theorem Seats.nd {b : Bk} {l : Lst} {t : List Str} {p : Plan} (h : Seats b l t p) (ht : In l t) : (p.map (·.1)).Nodup := h.perm.nodup_iff.mpr (asc_nodup ht.asc)
theorem Seats.ok {b : Bk} {l : Lst} (hl : LOk l) {t : List Str} {p : Plan} (h : Seats b l t p) (ht : In l t) : POk p := ⟨h.nd ht, by
  have h1 := h.perm.length_eq
  rw [List.length_map] at h1
  rw [h1]
  have := (asc_nodup ht.asc).length_le_of_subset ht.mem
  rw [List.length_map] at this
  exact Nat.le_trans this hl.len⟩
end SP
namespace DD
open PySem PySem.Spec PyProof.Rows L2
def eqTx (k : Str) : Value → Bool
  | .str a _ => a == k
  | _ => false
theorem txs_get : ∀ {ns : List Str} {us : List Value}, Vals (ns.map V.str) us → (∀ (i : Nat) (k : Str), ns[i]? = some k → ∃ t, us[i]? = some (.str k t)) ∧ (∀ y ∈ us, ∃ a t, y = Value.str a t)
  | [], us, h => by
    cases h
    exact ⟨fun i k e => (by simp at e), fun y hy => by cases hy⟩
  | n :: ns, us, h => by
    rw [List.map_cons] at h
    cases h with
    | cons h1 h2 =>
      obtain ⟨t, rfl⟩ := h1
      obtain ⟨i1, i2⟩ := txs_get h2
      refine ⟨fun i k e => ?_, fun y hy => ?_⟩
      · cases i with
        | zero =>
          simp only [List.getElem?_cons_zero, Option.some.injEq] at e
          subst e
          exact ⟨t, rfl⟩
        | succ i =>
          rw [List.getElem?_cons_succ] at e
          obtain ⟨t, h⟩ := i1 i k e
          exact ⟨t, h⟩
      · rcases List.mem_cons.mp hy with rfl | hy
        · exact ⟨_, _, rfl⟩
        · exact i2 y hy
def rRemT : V → List V → Hp → VK → Prop := fun x xs H Q => ∃ (l : Addr) (ns : List Str) (k : Str) (j : Nat), x = V.ref l ∧ xs = [V.str k] ∧ H l = some (HO.lst (ns.map V.str)) ∧ ns[j]? = some k ∧ (∀ m : Nat, m < j → ns[m]? ≠ some k) ∧ Q V.non (upd H l (HO.lst ((ns.eraseIdx j).map V.str)))
theorem erase_mapT : ∀ (ns : List Str) (j : Nat), (ns.map V.str).eraseIdx j = (ns.eraseIdx j).map V.str
  | [], _ => rfl
  | n :: ns, 0 => rfl
  | n :: ns, j + 1 => by
    rw [List.map_cons, List.eraseIdx_cons_succ, List.eraseIdx_cons_succ, List.map_cons, erase_mapT ns j]
theorem mt_removeT {X : Cx} : MtR X "list.remove" rRemT := by
  rintro pins s σ H x xs v us Q I rx rxs ⟨l, ns, k, j, rfl, rfl, hH, hj, hno, q⟩
  obtain rfl : v = Value.ref l := by first | exact rx | exact rx.symm | (cases rx; rfl)
  obtain ⟨u, rfl, t, rfl⟩ := Vals.one rxs
  obtain ⟨z, its, n, r, hl, e⟩ := Inv.lstM I hH
  rw [List.length_map] at hl z
  obtain ⟨g1, g2⟩ := txs_get r
  have hjn := (List.getElem?_eq_some_iff.mp hj).1
  have hjl : j < its.toArray.size := by rw [List.size_toArray]; omega
  refine call_meets F.slot_list_remove ⟨_, e, rfl⟩ F.entry_list_remove (F.args_list_remove_2 _ _) (MeetsSeq.list_remove l its.toArray n (Value.str k t) (eqTx k) (fun y hy => ?_) j hjl ?_ (fun m hm hmj => ?_) (by rw [List.size_toArray]; omega)) ⟨e, ?_⟩
  · obtain ⟨a, ta, rfl⟩ := g2 y (by simpa using hy)
    exact eqGives_str a k ta t
  · obtain ⟨tj, hjt⟩ := g1 j k hj
    obtain ⟨h1, h2⟩ := List.getElem?_eq_some_iff.mp hjt
    have e1 : its.toArray[j] = Value.str k tj := h2
    rw [e1]
    exact beq_self_eq_true k
  · have hmn : m < ns.length := by omega
    obtain ⟨tm, hmt⟩ := g1 m ns[m] (List.getElem?_eq_getElem hmn)
    obtain ⟨h1, h2⟩ := List.getElem?_eq_some_iff.mp hmt
    have e1 : its.toArray[m] = Value.str ns[m] tm := h2
    rw [e1]
    refine beq_eq_false_iff_ne.mpr fun e2 => hno m hmj ?_
    rw [List.getElem?_eq_getElem hmn, e2]
  · have rr := Vals.eraseIdx j r
    rw [erase_mapT] at rr
    have z2 := List.length_eraseIdx_le ns j
    exact ⟨V.non, _, Inv.lset I hH e (by rw [List.eraseIdxIfInBounds_toArray]) rr (by rw [List.length_map]; omega), rfl, q⟩
def dRem (to te : DE) : DS := fun Δ st N => to Δ st (fun o st1 => match o with
  | .own p => (∃ (j : Nat) (xs : List Sv), st1[j]? = some (p, Ob.lst xs)) ∧ te Δ st1 (fun v st2 => match v with
    | .dat (.str k) => ∃ (j : Nat) (ns : List Str) (i : Nat), st2[j]? = some (p, Ob.lst (ns.map fun n => .dat (.str n))) ∧ ns[i]? = some k ∧ (∀ m : Nat, m < i → ns[m]? ≠ some k) ∧ N.nx Δ (st2.set j (p, .lst ((ns.eraseIdx i).map fun n => .dat (.str n))))
    | _ => False) (exAt N Δ)
  | _ => False) (exAt N Δ)
theorem txs_are {K : PySem.W.Frag} {I : Hp} : ∀ {ns : List Str} {vs : List V}, IsSs K I (ns.map fun n => .dat (.str n)) vs → vs = ns.map V.str
  | [], _, .nil => rfl
  | n :: ns, _, .cons (.dat (.str _)) t => by rw [List.map_cons, txs_are t]
theorem txs_own {K : PySem.W.Frag} {I : Hp} : ∀ ns : List Str, IsSs K I (ns.map fun n => .dat (.str n)) (ns.map V.str)
  | [] => .nil
  | n :: ns => .cons (.dat (.str n)) (txs_own ns)
theorem lowS_rem {K : PySem.W.Frag} {W : WX} {to te : DE} : ∀ D σ H, lowS K (dRem to te) W D σ H → tDrop (tBM K "list" rRemT (low K to W) (tCons (low K te W) tNil)) D σ H := by
  rintro D σ H ⟨Δ, st, I, N, wd, sl, h, e⟩
  refine low_go wd sl h (fun o st1 ov I1 H1 h1 w1 s1 i1 => ?_) (cx_of sl e)
  cases i1 with
  | dat hd => exact h1.elim
  | own p =>
    obtain ⟨⟨j, xs, hj⟩, h1⟩ := h1
    obtain ⟨u, hu, io⟩ := own_at w1 hj
    cases io with
    | @lst _ us hs =>
      refine ⟨.inl ⟨rfl, us, .inl (.inl hu)⟩, low_go w1 (sl.mono s1.ii) h1 (fun v st2 vv I2 H2 h2 w2 s2 i2 => ?_) (cx_of (sl.mono s1.ii) (e.go s1))⟩
      cases i2 with
      | own q => exact h2.elim
      | dat hy =>
        cases hy with
        | str k =>
          obtain ⟨j2, ns, i, hj2, hi, hno, hn⟩ := h2
          obtain ⟨u2, hu2, io2⟩ := own_at w2 hj2
          cases io2 with
          | @lst _ us2 hs2 =>
            obtain rfl := txs_are hs2
            obtain ⟨w3, s3⟩ := set_own (o' := .lst ((ns.eraseIdx i).map V.str)) w2 hj2 (.lst (txs_own (ns.eraseIdx i)))
            exact ⟨p, ns, k, i, rfl, rfl, hu2, hi, hno, e.nx _ _ _ _ _ hn w3 ((s1.trans s2).trans s3) (sl.mono (s1.trans s2).ii)⟩
        | _ => exact h2.elim
theorem srem {X : Cx} {W : WX} {o e : Expr} {apos pos p2 : Pos} {to te : DE} (ho : PEd X W o to) (he : PEd X W e te) (hbase : attributeBase o "remove" X.env (eval o X.env) = eval o X.env := by rfl)
    (hfew : ((backTo pos (starEach [e] X.env)).all (fun x => !x.1) && (backToKw pos (keywordEach [] X.env)).all (fun x => x.1.isSome)
      && decide (([e] : List Expr).length + ([] : List Keyword).length + (if ([] : List Keyword).isEmpty then 0 else 1) < 30)) = true := by rfl)
    (hline : (apos.endLine == pos.line) = true := by rfl) (hs : starEach [e] X.env = (false, eval e X.env) :: starEach [] X.env := by rfl) (hplain : (backTo pos (starEach [] X.env)).any (·.1) = false := by rfl)
    (hsw : swapsWith (.Call (.Attribute o "remove" apos) [e] [] pos) none p2.line X.env = pure false := by rfl) : PSd X W (.Expr (.Call (.Attribute o "remove" apos) [e] [] pos) p2) (dRem to te) :=
  PS.imp (ps_expr (pe_bm PySem.F.plainAttrs_list PySem.F.slot_list_remove PySem.F.type_list_remove mt_removeT ho (pa_cons he pa_nil hs) hbase hfew hline hs hplain) hsw) lowS_rem
end DD
namespace SP
open PySem PySem.Spec PyProof.Rows L2 DD
def ctBtnP : Ct := fun ss st ok ex => ctBtn ss st ok ex ∨ ∃ (ws : List (Str × Win)) (p : Plan), ss = [.dat (dicD winD ws), .dat (planD p)] ∧ p.length ≤ 10 ∧ (p.map (·.1)).Nodup ∧ (∀ x ∈ p, ∃ w, look ws x.1 = some w) ∧ ok (.dat (namesD (btn (p.map fun x => (x.1, winOf ws x.1))))) st
abbrev Sz := List (Str × Int)
def sizesOf (b : Bk) (l : Lst) (k : Nat) : Sz := (btn (winsOf b l ((ownPlan b l k).map (·.1)))).map fun n => (n, (winOf (windows b l) n).2 - (winOf (windows b l) n).1)
def ctRecMin (c : Cl) : Ct := ctBL c (fun k : Nat => [dI (k : Int)]) (fun _ _ k => 1 ≤ k ∧ k ≤ 10) fun b l k => dicD .int (sizesOf b l k)
def ctRecMinX (c : Cl) (I : Addr) : Ct := fun ss st ok ex => ctRecMin c ss st ok ex ∨ ∃ (b : Bk) (l : Lst) (d : Dt), ss = [.dat (b.d c), .dat (lstD c l), .dat d] ∧ OddK d ∧ ex ⟨I, []⟩ st
def mins (sz : Sz) (ns : List Str) : Int := (ns.map fun n => (look sz n).getD 0).sum
/-- a list of names, known or one's own -/
def NamesAt (x : Sv) (st : Store) (ns : List Str) : Prop := x = .dat (namesD ns) ∨ ∃ (q : Addr) (j : Nat), x = .own q ∧ st[j]? = some (q, Ob.lst (ns.map fun n => .dat (.str n)))
def ctMins : Ct := fun ss st ok _ => ∃ (sz : Sz) (ns : List Str) (x : Sv), ss = [.dat (dicD .int sz), x] ∧ NamesAt x st ns ∧ ns.length ≤ 60 ∧ (∀ n ∈ ns, ∃ v, look sz n = some v) ∧ ok (dI (mins sz ns)) st
def isIn (t : List Str) (n : Str) : Bool := decide (n ∈ t)
def ctAmong2 : Ct := fun ss st ok _ => ∃ (ns t : List Str) (x : Sv), ss = [x, .dat (nsD t)] ∧ NamesAt x st ns ∧ ns.length ≤ 60 ∧ (∀ n ∈ ns, isWord n = true) ∧ (∀ n ∈ t, isWord n = true) ∧ ok (.dat (namesD (ns.filter (isIn t)))) st
def ctChkNum (I : Addr) : Ct := fun ss st ok ex => ∃ m a z : Int, ss = [dI m, dI a, dI z] ∧ a ≤ m ∧ m ≤ z ∧ ok (.dat .non) st
structure Dk where
  kept : List Str
  del : List Str
  ref : List Str
/-- room is made: the first that is not safe goes -/
def evict (sz : Sz) (t : List Str) (m s : Int) : Nat → List Str × List Str → List Str × List Str
  | 0, x => x
  | n + 1, x => if m < mins sz x.1 + s then match x.1.filter fun o => !isIn t o with
    | [] => x
    | e :: _ => evict sz t m s n (x.1.erase e, x.2 ++ [e])
    else x
def dkStep (sz : Sz) (t : List Str) (m : Int) (a : Dk) (x : Str × Int) : Dk :=
  if m - mins sz (a.kept.filter (isIn t)) < x.2 then ⟨a.kept, a.del, a.ref ++ [x.1]⟩
  else ⟨(evict sz t m x.2 a.kept.length (a.kept, a.del)).1 ++ [x.1], (evict sz t m x.2 a.kept.length (a.kept, a.del)).2, a.ref⟩
def diskOf (sz : Sz) (t : List Str) (m : Int) : Dk := sz.foldl (dkStep sz t m) ⟨[], [], []⟩
def dkD (a : Dk) : Dt := .tup [namesD a.kept, namesD a.del, namesD a.ref]
def ctDisk (c : Cl) : Ct := ctBL c (fun a : Nat × Int × List Str => [dI (a.1 : Int), dI a.2.1, .dat (nsD a.2.2)]) (fun _ _ a => (1 ≤ a.1 ∧ a.1 ≤ 10) ∧ (1 ≤ a.2.1 ∧ a.2.1 ≤ 1000000) ∧ ∀ n ∈ a.2.2, isWord n = true) fun b l a => dkD (diskOf (sizesOf b l a.1) a.2.2 a.2.1)
def need1 (sz : Sz) (t : List Str) (x : Str × Nat) : Int := (look sz x.1).getD 0 + mins sz (((sz.map (·.1)).take x.2).filter (isIn t))
def needs (sz : Sz) (t : List Str) : List Int := (sz.map (·.1)).zipIdx.map (need1 sz t)
def leastOf (sz : Sz) (t : List Str) : Option Int := if (needs sz t).foldl max 1 ≤ 100000 then some ((needs sz t).foldl max 1) else none
def optZ : Option Int → Dt
  | some i => .int i
  | none => .non
def ctLeastDisk (c : Cl) : Ct := ctBL c (fun a : Nat × List Str => [dI (a.1 : Int), .dat (nsD a.2)]) (fun _ _ a => (1 ≤ a.1 ∧ a.1 ≤ 10) ∧ ∀ n ∈ a.2, isWord n = true) fun b l a => optZ (leastOf (sizesOf b l a.1) a.2)
theorem sizes_keys (b : Bk) (l : Lst) (k : Nat) : (sizesOf b l k).map (·.1) = btn (winsOf b l ((ownPlan b l k).map (·.1))) := by
  unfold sizesOf
  rw [List.map_map]
  exact List.map_id _
theorem sizes_perm (b : Bk) (l : Lst) (k : Nat) : ((sizesOf b l k).map (·.1)).Perm ((ownPlan b l k).map (·.1)) := by
  rw [sizes_keys]
  have := btn_perm (winsOf b l ((ownPlan b l k).map (·.1)))
  rwa [wins_keys] at this
structure SzOk (sz : Sz) : Prop where
  nd : (sz.map (·.1)).Nodup
  len : sz.length ≤ 10
  pos : ∀ x ∈ sz, 1 ≤ x.2
  word : ∀ x ∈ sz, isWord x.1 = true
theorem sizes_ok {b : Bk} {l : Lst} (hb : BOk b) (hl : LOk l) (k : Nat) : SzOk (sizesOf b l k) := by
  have hp := sizes_perm b l k
  refine ⟨hp.nodup_iff.mpr (own_nd hl k), ?_, fun x hx => ?_, fun x hx => ?_⟩
  · have := hp.length_eq
    rw [List.length_map, List.length_map] at this
    rw [this]
    exact own_len hl k
  · have hn := own_wn hl x.1 (hp.mem_iff.mp (List.mem_map.mpr ⟨x, hx, rfl⟩))
    unfold sizesOf at hx
    obtain ⟨n, _, rfl⟩ := List.mem_map.mp hx
    obtain ⟨w, hw, e⟩ := List.mem_map.mp hn
    have e : w.n = n := e
    subst e
    dsimp only
    rw [win_is hl hw]
    have := (win_lo hb hl hw).2.2
    omega
  · exact own_word hl (hp.mem_iff.mp (List.mem_map.mpr ⟨x, hx, rfl⟩))
theorem SzOk.look {sz : Sz} (h : SzOk sz) {x : Str × Int} (hx : x ∈ sz) : SP.look sz x.1 = some x.2 := look_mem h.nd hx
theorem mins_nil (sz : Sz) : mins sz [] = 0 := rfl
theorem mins_cons (sz : Sz) (n : Str) (ns : List Str) : mins sz (n :: ns) = (look sz n).getD 0 + mins sz ns := by
  unfold mins
  rw [List.map_cons, List.sum_cons]
theorem mins_all {sz : Sz} (t : List Str) : ∀ ns : List Str, (ns.filter fun o => !isIn t o) = [] → mins sz (ns.filter (isIn t)) = mins sz ns
  | [], _ => rfl
  | n :: ns, h => by
    rw [List.filter_cons] at h
    cases hn : isIn t n with
    | true =>
      rw [hn] at h
      rw [List.filter_cons, hn, if_pos rfl, mins_cons, mins_cons, mins_all t ns h]
    | false =>
      rw [hn] at h
      cases h
/-- the state of the disk while it is walked -/
structure DkI (sz : Sz) (pre : Sz) (a : Dk) : Prop where
  kept : a.kept.Sublist (pre.map (·.1))
  len : a.kept.length + a.del.length + a.ref.length = pre.length
  del : ∀ n ∈ a.del, n ∈ pre.map (·.1)
  ref : ∀ n ∈ a.ref, n ∈ pre.map (·.1)
theorem first_atT {e : Str} : ∀ {ns : List Str}, e ∈ ns → ∃ i : Nat, ns[i]? = some e ∧ (∀ m : Nat, m < i → ns[m]? ≠ some e) ∧ ns.erase e = ns.eraseIdx i
  | n :: ns, h => by
    by_cases c : n = e
    · subst c
      exact ⟨0, rfl, fun m hm => absurd hm (Nat.not_lt_zero _), by rw [List.erase_cons_head]; rfl⟩
    · obtain ⟨i, h1, h2, h3⟩ := first_atT ((List.mem_cons.mp h).resolve_left fun z => c z.symm)
      refine ⟨i + 1, h1, fun m hm => ?_, by rw [List.erase_cons_tail (by simpa using c), h3]; rfl⟩
      cases m with
      | zero => exact fun z => c (Option.some.inj z)
      | succ m => exact h2 m (by omega)
theorem erase_len {n : Str} {ns : List Str} (h : n ∈ ns) : (ns.erase n).length + 1 = ns.length := by
  have := List.length_erase_of_mem h
  have := List.length_pos_of_mem h
  omega
theorem filter_erase {q : Str → Bool} {e : Str} (he : q e = false) : ∀ ns : List Str, (ns.erase e).filter q = ns.filter q
  | [] => rfl
  | n :: ns => by
    by_cases c : n = e
    · subst c
      rw [List.erase_cons_head, List.filter_cons, he]
      rfl
    · rw [List.erase_cons_tail (by simpa using c), List.filter_cons, List.filter_cons, filter_erase he ns]
theorem evict_step {sz : Sz} {t : List Str} {m s : Int} {n : Nat} {kept del : List Str} {e : Str} {es : List Str} (h : m < mins sz kept + s) (he : (kept.filter fun o => !isIn t o) = e :: es) : evict sz t m s (n + 1) (kept, del) = evict sz t m s n (kept.erase e, del ++ [e]) := by
  rw [evict, if_pos h]
  dsimp only
  rw [he]
theorem evict_stop {sz : Sz} {t : List Str} {m s : Int} {n : Nat} {kept del : List Str} (h : ¬ m < mins sz kept + s) : evict sz t m s n (kept, del) = (kept, del) := by
  cases n with
  | zero => rfl
  | succ n => rw [evict, if_neg h]
/-- the invariant of making room -/
structure EvI (sz pre : Sz) (t : List Str) (m s : Int) (a : Dk) (n : Nat) (kept del : List Str) : Prop where
  len : kept.length = n
  out : evict sz t m s n (kept, del) = evict sz t m s a.kept.length (a.kept, a.del)
  sub : kept.Sublist (pre.map (·.1))
  dl : kept.length + del.length + a.ref.length = pre.length
  fits : s ≤ m - mins sz (kept.filter (isIn t))
  del : ∀ n ∈ del, n ∈ pre.map (·.1)
theorem EvI.start {sz pre : Sz} {t : List Str} {m s : Int} {a : Dk} (h : DkI sz pre a) (hs : ¬ m - mins sz (a.kept.filter (isIn t)) < s) : EvI sz pre t m s a a.kept.length a.kept a.del := ⟨rfl, rfl, h.kept, h.len, by omega, h.del⟩
theorem EvI.first {sz pre : Sz} {t : List Str} {m s : Int} {a : Dk} {n : Nat} {kept del : List Str} (h : EvI sz pre t m s a n kept del) (hlt : m < mins sz kept + s) : ∃ e es, (kept.filter fun o => !isIn t o) = e :: es ∧ e ∈ kept := by
  cases he : kept.filter fun o => !isIn t o with
  | nil =>
    have := mins_all (sz := sz) t kept he
    have := h.fits
    omega
  | cons e es => exact ⟨e, es, rfl, (List.mem_filter.mp (show e ∈ kept.filter fun o => !isIn t o by rw [he]; exact List.mem_cons_self)).1⟩
theorem EvI.step {sz pre : Sz} {t : List Str} {m s : Int} {a : Dk} {n : Nat} {kept del : List Str} (h : EvI sz pre t m s a n kept del) (hlt : m < mins sz kept + s) {e : Str} {es : List Str} (he : (kept.filter fun o => !isIn t o) = e :: es) : ∃ n', n' < n ∧ EvI sz pre t m s a n' (kept.erase e) (del ++ [e]) := by
  have hm := List.mem_filter.mp (show e ∈ kept.filter fun o => !isIn t o by rw [he]; exact List.mem_cons_self)
  have hl := erase_len hm.1
  have hn := h.len
  cases n with
  | zero => omega
  | succ n =>
    refine ⟨n, by omega, by omega, ?_, List.erase_sublist.trans h.sub, ?_, ?_, fun o ho => ?_⟩
    · rw [← h.out, evict_step hlt he]
    · have := h.dl
      rw [List.length_append, List.length_singleton]
      omega
    · rw [filter_erase (by simpa using hm.2)]
      exact h.fits
    · rcases List.mem_append.mp ho with ho | ho
      · exact h.del o ho
      · rw [List.mem_singleton.mp ho]
        exact h.sub.subset hm.1
theorem DkI.refuse {sz pre : Sz} {t : List Str} {m : Int} {a : Dk} {x : Str × Int} (h : DkI sz pre a) (hs : m - mins sz (a.kept.filter (isIn t)) < x.2) : dkStep sz t m a x = ⟨a.kept, a.del, a.ref ++ [x.1]⟩ ∧ DkI sz (pre ++ [x]) (dkStep sz t m a x) := by
  have e : dkStep sz t m a x = ⟨a.kept, a.del, a.ref ++ [x.1]⟩ := by unfold dkStep; rw [if_pos hs]
  refine ⟨e, ?_⟩
  rw [e]
  have hsub : ∀ n ∈ pre.map (·.1), n ∈ (pre ++ [x]).map (·.1) := fun n hn => by rw [List.map_append]; exact List.mem_append_left _ hn
  refine ⟨?_, ?_, fun n hn => hsub n (h.del n hn), fun n hn => ?_⟩
  · rw [List.map_append]
    exact h.kept.trans (List.sublist_append_left _ _)
  · have := h.len
    rw [List.length_append, List.length_singleton, List.length_append, List.length_singleton]
    dsimp only
    omega
  · rcases List.mem_append.mp hn with hn | hn
    · exact hsub n (h.ref n hn)
    · rw [List.mem_singleton.mp hn, List.map_append]
      exact List.mem_append_right _ List.mem_cons_self
theorem EvI.done {sz pre : Sz} {t : List Str} {m : Int} {x : Str × Int} {a : Dk} (hr : ∀ n ∈ a.ref, n ∈ pre.map (·.1)) (hs : ¬ m - mins sz (a.kept.filter (isIn t)) < x.2) {n : Nat} {kept del : List Str} (h : EvI sz pre t m x.2 a n kept del) (hge : ¬ m < mins sz kept + x.2) : dkStep sz t m a x = ⟨kept ++ [x.1], del, a.ref⟩ ∧ DkI sz (pre ++ [x]) (dkStep sz t m a x) := by
  have e : dkStep sz t m a x = ⟨kept ++ [x.1], del, a.ref⟩ := by
    unfold dkStep
    rw [if_neg hs, ← h.out, evict_stop hge]
  refine ⟨e, ?_⟩
  rw [e]
  have hsub : ∀ n ∈ pre.map (·.1), n ∈ (pre ++ [x]).map (·.1) := fun n hn => by rw [List.map_append]; exact List.mem_append_left _ hn
  refine ⟨?_, ?_, fun n hn => hsub n (h.del n hn), fun n hn => hsub n (hr n hn)⟩
  · rw [List.map_append]
    exact h.sub.append (List.Sublist.refl _)
  · have := h.dl
    rw [List.length_append, List.length_singleton, List.length_append, List.length_singleton]
    dsimp only
    omega
theorem EvI.ends {sz pre : Sz} {t : List Str} {m s : Int} {a : Dk} : ∀ (n : Nat) {kept del : List Str}, EvI sz pre t m s a n kept del → ∃ n' kept' del', EvI sz pre t m s a n' kept' del' ∧ ¬ m < mins sz kept' + s := by
  intro n
  induction n using Nat.strongRecOn with
  | _ n ih =>
    intro kept del h
    by_cases c : m < mins sz kept + s
    · obtain ⟨e, es, he, _⟩ := h.first c
      obtain ⟨n', hn, h'⟩ := h.step c he
      exact ih n' hn h'
    · exact ⟨n, kept, del, h, c⟩
theorem DkI.step {sz pre : Sz} {t : List Str} {m : Int} {a : Dk} (h : DkI sz pre a) (x : Str × Int) : DkI sz (pre ++ [x]) (dkStep sz t m a x) := by
  by_cases c : m - mins sz (a.kept.filter (isIn t)) < x.2
  · exact (h.refuse c).2
  · obtain ⟨n, kept, del, h', c'⟩ := EvI.ends _ (EvI.start h c)
    exact (h'.done h.ref c c').2
theorem disk_inv (sz : Sz) (t : List Str) (m : Int) : ∀ (es pre : Sz) (a : Dk), DkI sz pre a → DkI sz (pre ++ es) (es.foldl (dkStep sz t m) a)
  | [], pre, a, h => by rw [List.append_nil]; exact h
  | e :: es, pre, a, h => by
    have := disk_inv sz t m es (pre ++ [e]) _ (h.step (t := t) (m := m) e)
    rw [List.append_assoc] at this
    exact this
theorem disk_pre (sz : Sz) (t : List Str) (m : Int) (pre : Sz) : DkI sz pre (pre.foldl (dkStep sz t m) ⟨[], [], []⟩) := by
  have := disk_inv sz t m pre [] ⟨[], [], []⟩ ⟨List.Sublist.refl _, rfl, (fun n hn => by cases hn), fun n hn => by cases hn⟩
  simpa using this
end SP
namespace SP
open PySem PySem.Spec PyProof.Rows L2 DD
structure Sim (φ : Int → Int) (σ : Wi → Wi) (b : Bk) (l : Lst) (b' : Bk) (l' : Lst) : Prop where
  ok : LOk l
  ok' : LOk l'
  w : wished b' l' = (wished b l).map σ
  n : ∀ w, (σ w).n = w.n
  ep : ∀ w, (σ w).s.ep = w.s.ep
  pr : ∀ w, (σ w).r.priority = w.r.priority
  beg : ∀ w ∈ wished b l, (σ w).s.begin_ = φ w.s.begin_
  win : ∀ w ∈ wished b l, (σ w).win = (φ w.win.1, φ w.win.2)
  mono : ∀ x y, φ x < φ y ↔ x < y
  eps : ∀ n, epAt l' n = epAt l n
  sure : ∀ w ∈ wished b l, ((σ w).s.late ≤ (σ w).r.after ↔ w.s.late ≤ w.r.after)
section
variable {φ : Int → Int} {σ : Wi → Wi} {b b' : Bk} {l l' : Lst}
theorem phi_inj (m : ∀ x y, φ x < φ y ↔ x < y) (x y : Int) : φ x = φ y ↔ x = y := by
  refine ⟨fun h => ?_, fun h => by rw [h]⟩
  have h1 := m x y
  have h2 := m y x
  omega
theorem phi_le (m : ∀ x y, φ x < φ y ↔ x < y) (x y : Int) : φ x ≤ φ y ↔ x ≤ y := by
  have h1 := m y x
  omega
theorem int_eqv (x y : Int) : PyData.eqv (.int x) (.int y) = decide (x = y) := by
  simp only [PyData.eqv]
  by_cases h : x = y <;> simp [h]
theorem phi_eqv (m : ∀ x y, φ x < φ y ↔ x < y) (x y : Int) : PyData.eqv (.int (φ x)) (.int (φ y)) = PyData.eqv (.int x) (.int y) := by
  rw [int_eqv, int_eqv]
  exact decide_eq_decide.mpr (phi_inj m x y)
theorem phi_lt (m : ∀ x y, φ x < φ y ↔ x < y) (x y : Int) : PySem.W.dataLt (.int (φ x)) (.int (φ y)) = PySem.W.dataLt (.int x) (.int y) := by
  rw [PySem.W.dataLt_int, PySem.W.dataLt_int]
  exact decide_eq_decide.mpr (m x y)
def rowPhi (φ : Int → Int) (r : Row) : Row := (r.1, φ r.2.1, r.2.2)
def bnPhi (φ : Int → Int) (r : Bn) : Bn := (φ r.1, r.2)
theorem row_phi (m : ∀ x y, φ x < φ y ↔ x < y) (a c : Row) : PySem.W.dataLe false rowP a c = PySem.W.dataLe false rowP (rowPhi φ a) (rowPhi φ c) := by
  obtain ⟨a1, a2, a3⟩ := a
  obtain ⟨c1, c2, c3⟩ := c
  rw [PySem.W.dataLe_eq]
  dsimp only [cond]
  have : PySem.W.dataLt (rowP (rowPhi φ (c1, c2, c3))) (rowP (rowPhi φ (a1, a2, a3))) = PySem.W.dataLt (rowP (c1, c2, c3)) (rowP (a1, a2, a3)) := by
    unfold rowP rowPhi
    dsimp only
    have al : PySem.W.alike (epP c3) (epP a3) = true := by simp [epP, PySem.W.alike, PySem.W.alikeAll]
    rw [PySem.W.dataLt_tuple, PySem.W.dataLt_tuple, PySem.W.dataLt_cons (by simp [PySem.W.alike]), PySem.W.dataLt_cons (by simp [PySem.W.alike]), PySem.W.dataLt_cons al, PySem.W.dataLt_cons (x := .int c1) (by simp [PySem.W.alike]), phi_eqv m, phi_lt m, PySem.W.dataLt_cons (x := .int c2) (by simp [PySem.W.alike]), PySem.W.dataLt_cons al]
  rw [this]
theorem bn_phi (m : ∀ x y, φ x < φ y ↔ x < y) (a c : Bn) : PySem.W.dataLe false bnP a c = PySem.W.dataLe false bnP (bnPhi φ a) (bnPhi φ c) := by
  obtain ⟨a1, a2⟩ := a
  obtain ⟨c1, c2⟩ := c
  rw [PySem.W.dataLe_eq]
  dsimp only [cond]
  have : PySem.W.dataLt (bnP (bnPhi φ (c1, c2))) (bnP (bnPhi φ (a1, a2))) = PySem.W.dataLt (bnP (c1, c2)) (bnP (a1, a2)) := by
    unfold bnP bnPhi
    dsimp only
    rw [PySem.W.dataLt_pair (by simp [PySem.W.alike]) (by simp [PySem.W.alike]), PySem.W.dataLt_pair (by simp [PySem.W.alike]) (by simp [PySem.W.alike]), phi_eqv m, phi_lt m]
  rw [this]
theorem Sim.wn (S : Sim φ σ b l b' l') : SP.wn b' l' = SP.wn b l := by
  unfold SP.wn
  rw [S.w, List.map_map]
  exact List.map_congr_left fun w _ => S.n w
theorem Sim.wishes (S : Sim φ σ b l b' l') : SP.wishes b' l' = SP.wishes b l := by
  have e : (SP.wished b' l').map Wi.row = ((SP.wished b l).map Wi.row).map (rowPhi φ) := by
    rw [S.w, List.map_map, List.map_map]
    refine List.map_congr_left fun w hw => ?_
    show (-(σ w).r.priority, (σ w).s.begin_, (σ w).s.ep) = (-w.r.priority, φ w.s.begin_, w.s.ep)
    rw [S.pr, S.beg w hw, S.ep]
  have e2 : sortedRows b' l' = (sortedRows b l).map (rowPhi φ) := by
    unfold sortedRows
    rw [e, List.map_mergeSort fun a _ c _ => row_phi S.mono a c]
  unfold SP.wishes
  rw [e2, List.map_map]
  rfl
theorem Sim.sends (S : Sim φ σ b l b' l') (e : Ep) : sendsOf b' l' e = sendsOf b l e := by
  have e1 : ((SP.wished b' l').filter fun x => decide (x.s.ep = e)).map Wi.bn = (((SP.wished b l).filter fun x => decide (x.s.ep = e)).map Wi.bn).map (bnPhi φ) := by
    rw [S.w, List.filter_map, List.map_map, List.map_map]
    have e2 : ((fun x : Wi => decide (x.s.ep = e)) ∘ σ) = fun x => decide (x.s.ep = e) := by
      funext x
      show decide ((σ x).s.ep = e) = _
      rw [S.ep]
    rw [e2]
    refine List.map_congr_left fun w hw => ?_
    show ((σ w).s.begin_, (σ w).n) = (φ w.s.begin_, w.n)
    rw [S.beg w (List.mem_filter.mp hw).1, S.n]
  unfold sendsOf bnOf
  rw [e1, ← List.map_mergeSort fun a _ c _ => bn_phi S.mono a c, List.map_map]
  rfl
def winPhi (φ : Int → Int) (w : Win) : Win := (φ w.1, φ w.2)
theorem Sim.winOf (S : Sim φ σ b l b' l') {n : Str} (hn : n ∈ SP.wn b l) : SP.winOf (windows b' l') n = winPhi φ (SP.winOf (windows b l) n) := by
  obtain ⟨w, hw, rfl⟩ := List.mem_map.mp hn
  have hw2 : σ w ∈ SP.wished b' l' := by rw [S.w]; exact List.mem_map.mpr ⟨w, hw, rfl⟩
  have e := win_is S.ok' hw2
  rw [S.n, S.win w hw] at e
  rw [e, win_is S.ok hw]
  rfl
theorem over_phi (m : ∀ x y, φ x < φ y ↔ x < y) (a c : Win) : overlap (winPhi φ a) (winPhi φ c) = overlap a c := by
  unfold overlap winPhi
  rw [← Bool.decide_and, ← Bool.decide_and]
  exact decide_eq_decide.mpr (by dsimp only; rw [m, m])
theorem Sim.onRec (S : Sim φ σ b l b' l') {p : Plan} (hp : ∀ x ∈ p, x.1 ∈ SP.wn b l) (r : Int) {n : Str} (hn : n ∈ SP.wn b l) : SP.onRec (windows b' l') p r n = SP.onRec (windows b l) p r n := by
  unfold SP.onRec onRecW
  refine List.filter_congr fun o ho => ?_
  obtain ⟨x, hx, e⟩ := List.mem_map.mp ((sortN_perm _).mem_iff.mp (List.mem_filter.mp ho).1)
  have ho : o ∈ SP.wn b l := by rw [← e]; exact hp x hx
  rw [S.winOf ho, S.winOf hn, over_phi S.mono]
theorem Sim.first (S : Sim φ σ b l b' l') {p : Plan} (hp : ∀ x ∈ p, x.1 ∈ SP.wn b l) (k : Nat) : ∀ {ns : List Str}, (∀ n ∈ ns, n ∈ SP.wn b l) → firstFree (windows b' l') p k ns = firstFree (windows b l) p k ns
  | [], _ => rfl
  | n :: ns, h => by
    have e : freeAt (windows b' l') p k n = freeAt (windows b l) p k n := by
      unfold freeAt
      congr 1
      funext r
      rw [S.onRec hp _ (h n List.mem_cons_self)]
    unfold firstFree
    rw [e, S.first hp k fun x hx => h x (List.mem_cons_of_mem _ hx)]
theorem sends_wn {e : Ep} : ∀ n ∈ sendsOf b l e, n ∈ SP.wn b l := fun n hn => by
  obtain ⟨w, hw, rfl, _⟩ := sends_mem.mp hn
  exact List.mem_map.mpr ⟨w, hw, rfl⟩
theorem Sim.taken (S : Sim φ σ b l b' l') (k : Nat) : SP.taken b' l' k = SP.taken b l k := by
  have key : ∀ (es : List Ep) (p : Plan), (∀ x ∈ p, x.1 ∈ SP.wn b l) → es.foldl (takeStep b' l' k) p = es.foldl (takeStep b l k) p := by
    intro es
    induction es with
    | nil => intro p _; rfl
    | cons e es ih =>
      intro p hp
      have e1 : takeStep b' l' k p e = takeStep b l k p e := by
        unfold takeStep
        rw [S.sends, S.first hp k (sends_wn (b := b) (l := l) (e := e))]
      rw [List.foldl_cons, List.foldl_cons, e1]
      refine ih _ fun x hx => ?_
      unfold takeStep at hx
      cases hf : firstFree (windows b l) p k (sendsOf b l e) with
      | none => rw [hf] at hx; exact hp x hx
      | some z =>
        rw [hf] at hx
        rcases List.mem_append.mp hx with hx | hx
        · exact hp x hx
        · rw [List.mem_singleton.mp hx]
          exact sends_wn _ (first_mem hf).1
  unfold SP.taken
  rw [S.wishes, key _ _ fun x hx => by cases hx]
theorem Sim.own (S : Sim φ σ b l b' l') (k : Nat) : ownPlan b' l' k = ownPlan b l k := by
  unfold ownPlan
  rw [S.taken]
theorem Sim.recd (S : Sim φ σ b l b' l') (k : Nat) : recorded b' l' k = recorded b l k := by
  unfold recorded
  rw [S.own]
  exact List.map_congr_left fun x _ => S.eps x.1
theorem Sim.lost (S : Sim φ σ b l b' l') (k : Nat) : SP.lost b' l' k = SP.lost b l k := by
  unfold SP.lost
  rw [S.wishes, S.recd]
theorem open_phi (m : ∀ x y, φ x < φ y ↔ x < y) {ws ws' : List (Str × Win)} {t : List Str} (h : ∀ n ∈ t, SP.winOf ws' n = winPhi φ (SP.winOf ws n)) (z : Int) : openAt ws' t (φ z) = openAt ws t z := by
  unfold openAt
  refine List.filter_congr fun n hn => ?_
  rw [h n hn, ← Bool.decide_and, ← Bool.decide_and]
  exact decide_eq_decide.mpr (by unfold winPhi; dsimp only; rw [phi_le m, m])
theorem most_phi (m : ∀ x y, φ x < φ y ↔ x < y) {ws ws' : List (Str × Win)} {t : List Str} (h : ∀ n ∈ t, SP.winOf ws' n = winPhi φ (SP.winOf ws n)) : mostAt ws' t = mostAt ws t := by
  unfold mostAt
  congr 1
  refine List.map_congr_left fun n hn => ?_
  rw [h n hn]
  show ((openAt ws' t (φ (SP.winOf ws n).1)).length : Int) = _
  rw [open_phi m h]
theorem Sim.choices (S : Sim φ σ b l b' l') (k : Nat) : choicesIn b' l' k = choicesIn b l k := by
  have e1 : singles l' (SP.wn b' l') = singles l (SP.wn b l) := by
    unfold singles
    rw [S.wn]
    refine List.filter_congr fun t _ => ?_
    unfold apartN
    rw [show epAt l' = epAt l from funext S.eps]
  unfold choicesIn
  rw [e1]
  refine List.filter_congr fun t ht => ?_
  have hw : ∀ n ∈ t, n ∈ SP.wn b l := ((subs_mem str_ord _ _ t).mp (List.mem_filter.mp ht).1).2.2
  rw [most_phi S.mono fun n hn => S.winOf (hw n hn)]
theorem Sim.prio (S : Sim φ σ b l b' l') {n : Str} (hn : n ∈ SP.wn b l) : prioAt b' l' n = prioAt b l n := by
  obtain ⟨w, hw, rfl⟩ := List.mem_map.mp hn
  have hw2 : σ w ∈ SP.wished b' l' := by rw [S.w]; exact List.mem_map.mpr ⟨w, hw, rfl⟩
  have e := prioAt_is S.ok' hw2
  rw [S.n, S.pr] at e
  rw [e, prioAt_is S.ok hw]
theorem Sim.worth (S : Sim φ σ b l b' l') {t : List Str} (ht : ∀ n ∈ t, n ∈ SP.wn b l) : worthOf b' l' t = worthOf b l t := by
  unfold worthOf
  rw [List.map_congr_left fun n hn => S.prio (ht n hn)]
theorem Sim.best (S : Sim φ σ b l b' l') {k : Nat} {t : List Str} (h : Best b' l' k t) : Best b l k t := by
  obtain ⟨c0, cs, hc, ht, hm⟩ := h
  rw [S.choices] at hc
  have hin : ∀ u ∈ c0 :: cs, ∀ n ∈ u, n ∈ SP.wn b l := fun u hu => (choices_in S.ok (show u ∈ choicesIn b l k by rw [hc]; exact hu)).2
  have row : ∀ u ∈ c0 :: cs, bcRow b' l' u = bcRow b l u := fun u hu => by unfold bcRow; rw [S.worth (hin u hu)]
  refine ⟨c0, cs, hc, ht, ?_⟩
  rw [row t ht, row c0 List.mem_cons_self] at hm
  rw [hm]
  congr 1
  exact List.map_congr_left fun u hu => by rw [row u (List.mem_cons_of_mem _ hu)]
theorem Sim.surely (S : Sim φ σ b l b' l') (hb : BOk b) (hb' : BOk b') (k : Nat) : SP.surely b' l' (ownPlan b l k) = SP.surely b l (ownPlan b l k) := by
  have h1 := surely_filter hb' S.ok' k
  rw [S.own, S.taken] at h1
  rw [h1, surely_filter hb S.ok]
  refine List.filter_congr fun n hn => ?_
  obtain ⟨x, hx, rfl⟩ := List.mem_map.mp ((sortN_perm _).mem_iff.mp hn)
  obtain ⟨⟨w, hw, e, _⟩, _⟩ := (taken_inv S.ok k).mem x hx
  have hw2 : σ w ∈ SP.wished b' l' := by rw [S.w]; exact List.mem_map.mpr ⟨w, hw, rfl⟩
  have e2 := wiOf_is S.ok' hw2
  rw [S.n] at e2
  unfold sureB
  rw [← e, e2, wiOf_is S.ok hw]
  exact decide_eq_decide.mpr (S.sure w hw)
theorem Sim.allSure (S : Sim φ σ b l b' l') (hb : BOk b) (hb' : BOk b') (k : Nat) : SP.allSure b' l' k = SP.allSure b l k := by
  unfold SP.allSure
  rw [S.own, S.surely hb hb']
theorem Sim.way (S : Sim φ σ b l b' l') (k : Nat) (e : Ep) {n : Str} (hn : n ∈ sendsOf b l e) : wayOf b' l' k e n = wayOf b l k e n := by
  have e1 : planBefore b' l' k e = planBefore b l k e := by
    unfold planBefore earlier
    rw [S.own, S.wishes, show epAt l' = epAt l from funext S.eps]
  unfold wayOf
  rw [e1]
  refine List.map_congr_left fun r _ => ?_
  refine S.onRec (fun x hx => ?_) _ (sends_wn n hn)
  unfold planBefore at hx
  exact own_wn S.ok x.1 (List.mem_map.mpr ⟨x, (List.mem_filter.mp hx).1, rfl⟩)
theorem wins_phi (S : Sim φ σ b l b' l') {t : List Str} (ht : ∀ n ∈ t, n ∈ SP.wn b l) : winsOf b' l' t = (winsOf b l t).map fun x => (x.1, winPhi φ x.2) := by
  unfold winsOf
  rw [List.map_map]
  exact List.map_congr_left fun n hn => by
    show (n, SP.winOf (windows b' l') n) = (n, winPhi φ (SP.winOf (windows b l) n))
    rw [S.winOf (ht n hn)]
theorem Sim.btn (S : Sim φ σ b l b' l') {t : List Str} (ht : ∀ n ∈ t, n ∈ SP.wn b l) : SP.btn (winsOf b' l' t) = SP.btn (winsOf b l t) := by
  have e : ((winsOf b' l' t).map fun x => ((x.2.1, x.1) : Bn)) = ((winsOf b l t).map fun x => ((x.2.1, x.1) : Bn)).map (bnPhi φ) := by
    rw [wins_phi S ht, List.map_map, List.map_map]
    rfl
  have key : ∀ xs : List Bn, (xs.map (bnPhi φ)).mergeSort bnLe = (xs.mergeSort bnLe).map (bnPhi φ) := fun xs => (List.map_mergeSort fun a _ c _ => bn_phi S.mono a c).symm
  unfold SP.btn btRows
  rw [e, key, List.map_map]
  rfl
def busyPhi (φ : Int → Int) (r : Int × List Str) : Int × List Str := (if r.2 = [] then 0 else φ r.1, r.2)
theorem Sim.busy (S : Sim φ σ b l b' l') {t : List Str} (ht : In l t) (hw : ∀ n ∈ t, n ∈ SP.wn b l) : busyOf (winsOf b' l' t) = busyPhi φ (busyOf (winsOf b l t)) := by
  have htn := asc_nodup ht.asc
  have hwin : ∀ n ∈ t, SP.winOf (winsOf b' l' t) n = winPhi φ (SP.winOf (winsOf b l t) n) := fun n hn => by
    rw [wins_at htn hn, wins_at htn hn, S.winOf (hw n hn)]
  have key : ∀ (L : List Str) (acc : Int × List Str), (∀ n ∈ L, n ∈ t) → L.foldl (busyStep (winsOf b' l' t) t) (busyPhi φ acc) = busyPhi φ (L.foldl (busyStep (winsOf b l t) t) acc) := by
    intro L
    induction L with
    | nil => intro acc _; rfl
    | cons n L ih =>
      intro acc hL
      rw [List.foldl_cons, List.foldl_cons]
      have e : busyStep (winsOf b' l' t) t (busyPhi φ acc) n = busyPhi φ (busyStep (winsOf b l t) t acc n) := by
        have h1 : openAt (winsOf b' l' t) t (SP.winOf (winsOf b' l' t) n).1 = openAt (winsOf b l t) t (SP.winOf (winsOf b l t) n).1 := by
          rw [hwin n (hL n List.mem_cons_self)]
          exact open_phi S.mono hwin _
        unfold busyStep
        rw [h1]
        have h2 : (busyPhi φ acc).2 = acc.2 := rfl
        rw [h2]
        by_cases c : acc.2.length < (openAt (winsOf b l t) t (SP.winOf (winsOf b l t) n).1).length
        · rw [if_pos c, if_pos c]
          unfold busyPhi
          dsimp only
          have hne : openAt (winsOf b l t) t (SP.winOf (winsOf b l t) n).1 ≠ [] := fun z => by rw [z] at c; exact absurd c (Nat.not_lt_zero _)
          rw [if_neg hne, hwin n (hL n List.mem_cons_self)]
          rfl
        · rw [if_neg c, if_neg c]
      rw [e]
      exact ih _ fun x hx => hL x (List.mem_cons_of_mem _ hx)
  have hpm : ∀ n ∈ SP.btn (winsOf b l t), n ∈ t := fun n hn => by
    have := (btn_perm (winsOf b l t)).mem_iff.mp hn
    rwa [wins_keys] at this
  unfold busyOf
  rw [wins_keys, wins_keys, S.btn hw]
  exact key _ (0, []) hpm
theorem Sim.sizes (S : Sim φ σ b l b' l') (k : Nat) : sizesOf b' l' k = (SP.btn (winsOf b l ((ownPlan b l k).map (·.1)))).map fun n => (n, φ (SP.winOf (windows b l) n).2 - φ (SP.winOf (windows b l) n).1) := by
  unfold sizesOf
  rw [S.own, S.btn (own_wn S.ok)]
  refine List.map_congr_left fun n hn => ?_
  have : n ∈ SP.wn b l := own_wn S.ok n (by
    have := (btn_perm (winsOf b l ((ownPlan b l k).map (·.1)))).mem_iff.mp hn
    rwa [wins_keys] at this)
  rw [S.winOf this]
  rfl
theorem Sim.rounds {P : Bk → Bk → Prop} (hP : ∀ b b', P b b' → Sim φ σ b l b' l') (hS : ∀ c c', P c c' → ∀ es, P (c.seen2 es) (c'.seen2 es)) (k : Nat) : ∀ (n : Nat) (b b' : Bk), P b b' → roundsF l' k n b' = roundsF l k n b
  | 0, _, _, _ => rfl
  | n + 1, b, b', h => by
    have S := hP b b' h
    unfold roundsF
    rw [S.own, S.recd, Sim.rounds hP hS k n _ _ (hS _ _ h _)]
end
end SP
namespace SP
open PySem PySem.Spec PyProof.Rows L2 DD
def Snd.move (c : Int) (s : Snd) : Snd := { s with begin_ := s.begin_ + c, end_ := s.end_ + c }
def Wi.move (c : Int) (w : Wi) : Wi := ⟨w.n, w.s.move c, w.r⟩
theorem move_sim {b : Bk} {l : Lst} {c : Int} (hl : LOk l) (hl' : LOk (mapS (Snd.move c) l)) (hc : 0 ≤ c) (h10 : ∀ x ∈ l, 10 ≤ x.2.begin_) (hp : ∀ r ∈ b.rules, r.before ≤ 9) : Sim (· + c) (Wi.move c) b l b (mapS (Snd.move c) l) := by
  refine ⟨hl, hl', ?_, fun _ => rfl, fun _ => rfl, fun _ => rfl, fun _ _ => rfl, fun w hw => ?_, fun x y => by show x + c < y + c ↔ x < y; omega, fun n => ?_, fun _ _ => Iff.rfl⟩
  · unfold wished mapS
    rw [List.filterMap_map, List.map_filterMap]
    congr 1
    funext x
    show (ruleFor b (x.2.move c)).map _ = _
    rw [show ruleFor b (x.2.move c) = ruleFor b x.2 from rfl, Option.map_map]
    rfl
  · have h1 : 10 ≤ w.s.begin_ := h10 _ (wished_mem.mp hw).1
    have h2 := hp _ (wi_rule hw)
    unfold Wi.move Wi.win Snd.move
    dsimp only
    rw [if_pos (by omega), if_pos (by omega)]
    refine Prod.ext ?_ ?_ <;> dsimp only <;> omega
  · unfold epAt
    rw [mapS_look, Option.map_map]
    rfl
structure MvOk (b : Bk) (l : Lst) (c : Int) : Prop where
  bk : BOk b
  ok : LOk l
  ok' : LOk (mapS (Snd.move c) l)
  c0 : 0 ≤ c
  beg : ∀ x ∈ l, 10 ≤ x.2.begin_
  pad : ∀ r ∈ b.rules, r.before ≤ 9
theorem MvOk.sim {b : Bk} {l : Lst} {c : Int} (m : MvOk b l c) : Sim (· + c) (Wi.move c) b l b (mapS (Snd.move c) l) := move_sim m.ok m.ok' m.c0 m.beg m.pad
theorem MvOk.more {b : Bk} {l : Lst} {c : Int} (m : MvOk b l c) {z : Int} (hz : 0 ≤ z) : MvOk (b.more z) l c := ⟨more_ok m.bk hz, m.ok, m.ok', m.c0, m.beg, fun r hr => by
  obtain ⟨r', hr', rfl⟩ := List.mem_map.mp hr
  exact m.pad r' hr'⟩
theorem MvOk.least {b : Bk} {l : Lst} {c : Int} (m : MvOk b l c) (k : Nat) : leastMore b (mapS (Snd.move c) l) k = leastMore b l k := by
  unfold leastMore
  rw [m.sim.lost]
  congr 1
  funext z
  have m2 := m.more (z := (z : Int)) (by omega)
  rw [m2.sim.allSure m2.bk m2.bk, m2.sim.lost]
theorem MvOk.sizes {b : Bk} {l : Lst} {c : Int} (m : MvOk b l c) (k : Nat) : sizesOf b (mapS (Snd.move c) l) k = sizesOf b l k := by
  rw [m.sim.sizes]
  unfold sizesOf
  refine List.map_congr_left fun n _ => ?_
  refine Prod.ext rfl ?_
  dsimp only
  omega
theorem strs_self (ns : List Str) : PyData.eqvAll (ns.map PyData.str) (ns.map PyData.str) = true := by
  have := txs_eqvAll ns ns
  rw [decide_eq_true rfl] at this
  exact this
theorem strs_depth (ns : List Str) : PyData.depthAll (ns.map PyData.str) = 0 := txs_depth ns
def dkP (a : Dk) : PyData := .tuple [.list (a.kept.map .str), .list (a.del.map .str), .list (a.ref.map .str)]
theorem dk_of (a : Dk) : PyOf (dkD a) (dkP a) := .tup (.cons (.lst (names_of _)) (.cons (.lst (names_of _)) (.cons (.lst (names_of _)) .nil)))
theorem dk_shaped {a : Dk} (h : (∀ n ∈ a.kept, isWord n = true) ∧ (∀ n ∈ a.del, isWord n = true) ∧ ∀ n ∈ a.ref, isWord n = true) : SeqAt.shaped (dkP a) = true := by
  obtain ⟨h1, h2, h3⟩ := h
  have l1 := names_lay _ h1
  have l2 := names_lay _ h2
  have l3 := names_lay _ h3
  have hc : (dkP a).canLay0 = true := by
    unfold dkP
    simp only [PyData.canLay0, PyData.canLayAll0, l1, l2, l3, Bool.and_self]
  have hd : (dkP a).depth ≤ 64 := by
    unfold dkP
    simp only [PyData.depth, PyData.depthAll, strs_depth]
    decide
  unfold SeqAt.shaped
  rw [hc, decide_eq_true hd]
  rfl
theorem dk_self (a : Dk) : PyData.eqv (dkP a) (dkP a) = true := by
  unfold dkP
  simp only [PyData.eqv, PyData.eqvAll, strs_self, Bool.and_self]
theorem disk_words {sz : Sz} (h : SzOk sz) (t : List Str) (m : Int) : (∀ n ∈ (diskOf sz t m).kept, isWord n = true) ∧ (∀ n ∈ (diskOf sz t m).del, isWord n = true) ∧ ∀ n ∈ (diskOf sz t m).ref, isWord n = true := by
  have I := disk_pre sz t m sz
  have w : ∀ n ∈ sz.map (·.1), isWord n = true := fun n hn => by
    obtain ⟨x, hx, rfl⟩ := List.mem_map.mp hn
    exact h.word x hx
  exact ⟨fun n hn => w n (I.kept.subset hn), fun n hn => w n (I.del n hn), fun n hn => w n (I.ref n hn)⟩
def mnP (r : Int × List Str) : PyData := .tuple [.int r.1, .tuple (r.2.map .str)]
theorem mn_of (r : Int × List Str) : PyOf (.tup [.int r.1, nsD r.2]) (mnP r) := .tup (.cons (.int _) (.cons (ns_of _) .nil))
theorem mn_shaped {r : Int × List Str} (h : ∀ n ∈ r.2, isWord n = true) : SeqAt.shaped (mnP r) = true := by
  have l1 := names_lay _ h
  have hc : (mnP r).canLay0 = true := by
    unfold mnP
    simp only [PyData.canLay0, PyData.canLayAll0, l1, Bool.and_self]
  have hd : (mnP r).depth ≤ 64 := by
    unfold mnP
    simp only [PyData.depth, PyData.depthAll, strs_depth]
    decide
  unfold SeqAt.shaped
  rw [hc, decide_eq_true hd]
  rfl
theorem mn_self (r : Int × List Str) : PyData.eqv (mnP r) (mnP r) = true := by
  unfold mnP
  simp [PyData.eqv, PyData.eqvAll, strs_self]
theorem busy_sub {ws : List (Str × Win)} : ∀ n ∈ (busyOf ws).2, n ∈ ws.map (·.1) := by
  have key : ∀ (L : List Str) (acc : Int × List Str), (∀ n ∈ acc.2, n ∈ ws.map (·.1)) → ∀ n ∈ (L.foldl (busyStep ws (ws.map (·.1))) acc).2, n ∈ ws.map (·.1) := by
    intro L
    induction L with
    | nil => intro acc h; exact h
    | cons m L ih =>
      intro acc h
      rw [List.foldl_cons]
      refine ih _ ?_
      unfold busyStep
      split
      · exact fun n hn => (open_mem.mp hn).1
      · exact h
  exact key _ _ fun n hn => by cases hn
end SP
namespace SP
open PySem PySem.Spec PyProof.Rows L2 DD
theorem strs_tshaped {ns : List Str} (h : ∀ n ∈ ns, isWord n = true) : SeqAt.shaped (.tuple (ns.map .str)) = true := by
  have hc : (PyData.tuple (ns.map .str)).canLay0 = true := by
    simp only [PyData.canLay0, names_lay _ h]
  have hd : (PyData.tuple (ns.map .str)).depth ≤ 64 := by
    simp only [PyData.depth, strs_depth]
    decide
  unfold SeqAt.shaped
  rw [hc, decide_eq_true hd]
  rfl
end SP
namespace DD
open PySem PySem.Spec PyProof.Rows L2
abbrev PD := Key × PyData
def DpK (K : PySem.W.Frag) (H : Hp) (p : PD) (kv : Key × V) : Prop := p.1 = kv.1 ∧ Dp K H kv.2 p.2
def rNeDW (K : PySem.W.Frag) : R2 := fun x y H Q => ∃ (a b : Addr) (ks ls : List (Key × V)) (ps : List PD), x = .ref a ∧ y = .ref b ∧ Rd H a (.dK ks) ∧ Rd H b (.dK ls) ∧ Paired (DpK K H) ps ks ∧ Paired (DpK K H) ps ls ∧ (ps.map (·.1)).Nodup ∧ (∀ p ∈ ps, SeqAt.shaped p.2 = true ∧ PyData.eqv p.2 p.2 = true) ∧ Q (.bl false) H
theorem dp_at {K : PySem.W.Frag} {H : Hp} : ∀ {ps : List PD} {ls : List (Key × V)}, Paired (DpK K H) ps ls → (ps.map (·.1)).Nodup → ∀ p ∈ ps, ∃ y, valV ls p.1 = some y ∧ Dp K H y p.2
  | _, _, .nil, _, p, h => by cases h
  | q :: ps, (k, v) :: ls, .cons a t, nd, p, h => by
    obtain ⟨a1, a2⟩ := a
    have a1 : q.1 = k := a1
    rw [List.map_cons] at nd
    obtain ⟨n1, n2⟩ := List.nodup_cons.mp nd
    unfold valV
    rw [List.find?_cons]
    dsimp only
    rcases List.mem_cons.mp h with rfl | h
    · rw [decide_eq_true a1.symm]
      exact ⟨v, rfl, a2⟩
    · have ne : ¬ k = p.1 := fun z => n1 (by rw [a1, z]; exact List.mem_map.mpr ⟨p, h, rfl⟩)
      rw [decide_eq_false ne]
      exact dp_at t n2 p h
theorem hits_W {X : Cx} {pins : List (Addr × Obj)} {σ : L2.St} {H : Hp} {s : Shared} (I : Inv X pins σ H s) {A : Around} (hu : A.units + 64 < cLine) {ls : List (Key × V)} {vb : List (Key × Value)} (rb : KV ls vb) {ps0 : List PD} (hls : Paired (DpK X.K H) ps0 ls) (nd : (ps0.map (·.1)).Nodup) (hs : ∀ p ∈ ps0, SeqAt.shaped p.2 = true ∧ PyData.eqv p.2 p.2 = true) :
    ∀ {ps : List PD} {ks : List (Key × V)} {va : List (Key × Value)}, (∀ p ∈ ps, p ∈ ps0) → Paired (DpK X.K H) ps ks → KV ks va → PySem.W.KeqHits A s vb va true
  | _, _, _, _, .nil, .nil => .nil
  | p :: ps, (k, v) :: ks, (k', v') :: va, hin, .cons a t, .cons h r => by
    obtain ⟨a1, a2⟩ := a
    obtain ⟨h1, h2⟩ := h
    have a1 : p.1 = k := a1
    have h1 : k = k' := h1
    have h2 : RelV v v' := h2
    have a2 : Dp X.K H v p.2 := a2
    subst h1
    obtain ⟨y, hy, dy⟩ := dp_at hls nd p (hin p List.mem_cons_self)
    obtain ⟨s1, s2⟩ := hs p (hin p List.mem_cons_self)
    have rr := rb.val k
    rw [← a1, hy] at rr
    obtain ⟨y', hy', ry⟩ := rr.some_of
    obtain ⟨as, ra⟩ := Dp.reads I p.2 v v' a2 h2
    obtain ⟨bs, rb'⟩ := Dp.reads I p.2 y y' dy ry
    unfold SeqAt.shaped at s1
    rw [Bool.and_eq_true, decide_eq_true_iff] at s1
    have he := SeqAt.eqAt_reads p.2 p.2 A s v' y' as bs ra rb' s1.1 s1.1 (by rw [Nat.min_self]; have := s1.2; omega)
    have ih := hits_W I hu rb hls nd hs (fun q hq => hin q (List.mem_cons_of_mem _ hq)) t r
    rw [← a1]
    have := PySem.W.KeqHits.hit hy' he ih
    rw [s2, Bool.true_and] at this
    exact this
theorem op_neDW {X : Cx} (hu : X.A.units + 65 < cLine) : OpR X (compareOp .NotEq) (rNeDW X.K) := by
  intro pins s σ H x y v u Q I rx ry h
  obtain ⟨a, b, ks, ls, ps, rfl, rfl, ea, eb, pa, pb, nd, hs, q⟩ := h
  obtain rfl : v = Value.ref a := rx
  obtain rfl : u = Value.ref b := ry
  obtain ⟨_, ya, va, ra, da⟩ : ObjOk X.prog X.w H s.heap a (.dK ks) := ea.ok I.hok
  obtain ⟨_, yb, vb, rb, db⟩ : ObjOk X.prog X.w H s.heap b (.dK ls) := eb.ok I.hok
  refine PySem.W.keq_ne (knd := mixKind X.prog X.w) (r := true) ya yb da db (by omega) (fun _ => hits_W I (A := X.A.in1) (by show X.A.units + 1 + 64 < cLine; omega) rb pb nd hs (fun p h => h) pa ra) (fin_bl I q ?_)
  have e1 := Paired.length pa
  have e2 := Paired.length pb
  rw [← ra.length, ← rb.length, ← e1, ← e2]
  simp
def gNeDW : G2 := fun x y st ok => match x, y with
  | .dat (.dic ds), .dat (.dic es) => ds = es ∧ (ds.map (·.1)).Nodup ∧ (∃ ps : List PyData, PyOfs (ds.map (·.2)) ps ∧ ∀ p ∈ ps, SeqAt.shaped p = true ∧ PyData.eqv p p = true) ∧ ok (.dat (.bl false)) st
  | _, _ => False
theorem dpk_of {K : PySem.W.Frag} {st : Store} {I H : Hp} (w : Wd K st I H) : ∀ {ds : List (Key × Dt)} {vs : List (Key × V)} {ps : List PyData}, IsDk K I ds vs → PyOfs (ds.map (·.2)) ps → Paired (DpK K H) ((ds.map (·.1)).zip ps) vs
  | [], _, _, .nil, .nil => .nil
  | (k, d) :: ds, _, _, .cons h t, .cons a b => .cons ⟨rfl, PyOf.dp w a h⟩ (dpk_of w t b)
theorem zip_fst {α β : Type} : ∀ {xs : List α} {ys : List β}, xs.length = ys.length → (xs.zip ys).map (·.1) = xs
  | [], [], _ => rfl
  | x :: xs, y :: ys, h => by
    rw [List.zip_cons_cons, List.map_cons, zip_fst (by simpa using h)]
theorem pyofs_len : ∀ {ds : List Dt} {ps : List PyData}, PyOfs ds ps → ds.length = ps.length
  | _, _, .nil => rfl
  | _, _, .cons _ b => by rw [List.length_cons, List.length_cons, pyofs_len b]
theorem lr_neDW {K : PySem.W.Frag} : LR2 K (rNeDW K) gNeDW := by
  intro x y st I H ok Q v w wd ix iy h c
  cases ix with
  | own p => exact h.elim
  | dat hx =>
    cases hx with
    | dic a1 a2 =>
      cases iy with
      | own p => exact h.elim
      | dat hy =>
        cases hy with
        | dic b1 b2 =>
          obtain ⟨rfl, nd, ⟨ps, hp, hs⟩, h⟩ := h
          refine ⟨_, _, _, _, _, rfl, rfl, wd.sub.rd a1, wd.sub.rd b1, dpk_of wd a2 hp, dpk_of wd b2 hp, ?_, fun p hp' => hs p.2 (List.of_mem_zip hp').2, c.now wd h (.dat (.bl _))⟩
          rw [zip_fst]
          · exact nd
          · have := pyofs_len hp
            rw [List.length_map] at this ⊢
            exact this
        | _ => exact h.elim
    | _ => cases iy <;> exact h.elim
end DD
namespace SP
open PySem PySem.Spec PyProof.Rows L2 DD
def wayP (rs : List (List Str)) : PyData := .list (rs.map fun ns => .list (ns.map .str))
theorem ways_of : ∀ rs : List (List Str), PyOfs (rs.map namesD) (rs.map fun ns => PyData.list (ns.map .str))
  | [] => .nil
  | r :: rs => .cons (.lst (names_of r)) (ways_of rs)
theorem way_of (rs : List (List Str)) : PyOf (wayD rs) (wayP rs) := .lst (ways_of rs)
theorem ways_lay : ∀ rs : List (List Str), (∀ ns ∈ rs, ∀ n ∈ ns, isWord n = true) → PyData.canLayAll0 (rs.map fun ns => PyData.list (ns.map .str)) = true
  | [], _ => rfl
  | r :: rs, h => by
    rw [List.map_cons, PyData.canLayAll0, ways_lay rs fun ns hn => h ns (List.mem_cons_of_mem _ hn), PyData.canLay0, names_lay r (h r List.mem_cons_self)]
    rfl
theorem ways_depth : ∀ rs : List (List Str), PyData.depthAll (rs.map fun ns => PyData.list (ns.map .str)) ≤ 1
  | [] => Nat.zero_le _
  | r :: rs => by
    have := ways_depth rs
    rw [List.map_cons, PyData.depthAll, PyData.depth, strs_depth]
    omega
theorem way_shaped {rs : List (List Str)} (h : ∀ ns ∈ rs, ∀ n ∈ ns, isWord n = true) : SeqAt.shaped (wayP rs) = true := by
  have hc : (wayP rs).canLay0 = true := by unfold wayP; rw [PyData.canLay0]; exact ways_lay rs h
  have hd : (wayP rs).depth ≤ 64 := by
    have := ways_depth rs
    unfold wayP
    rw [PyData.depth]
    omega
  unfold SeqAt.shaped
  rw [hc, decide_eq_true hd]
  rfl
theorem ways_self : ∀ rs : List (List Str), PyData.eqvAll (rs.map fun ns => PyData.list (ns.map .str)) (rs.map fun ns => PyData.list (ns.map .str)) = true
  | [] => by simp [PyData.eqvAll]
  | r :: rs => by
    rw [List.map_cons, PyData.eqvAll, ways_self rs, PyData.eqv, strs_self]
    rfl
theorem way_self (rs : List (List Str)) : PyData.eqv (wayP rs) (wayP rs) = true := by
  unfold wayP
  rw [PyData.eqv]
  exact ways_self rs
theorem way_words {b : Bk} {l : Lst} (hl : LOk l) (k : Nat) (e : Ep) (n : Str) : ∀ ns ∈ wayOf b l k e n, ∀ m ∈ ns, isWord m = true := fun ns hns m hm => by
  unfold wayOf at hns
  obtain ⟨r, _, rfl⟩ := List.mem_map.mp hns
  exact own_word hl (List.mem_map.mpr ⟨_, look_in (way_mem hl hm).1, rfl⟩)
theorem ways_all (b : Bk) (l : Lst) (k : Nat) (e : Ep) : ∀ ns : List Str, PyOfs ((ns.map fun n => ((Sum.inr n : Key), wayD (wayOf b l k e n))).map (·.2)) (ns.map fun n => wayP (wayOf b l k e n))
  | [] => .nil
  | n :: ns => .cons (way_of _) (ways_all b l k e ns)
end SP
namespace SP
open PySem PySem.Spec PyProof.Rows L2 DD
inductive PlX : Nat → Dt → Prop
  | non (n : Nat) : PlX (n + 1) .non
  | bl (n : Nat) (b : Bool) : PlX (n + 1) (.bl b)
  | int (n : Nat) (i : Int) : PlX (n + 1) (.int i)
  | str (n : Nat) (z : Str) : PlX (n + 1) (.str z)
  | lst {n : Nat} {ds : List Dt} (h : ∀ d ∈ ds, PlX n d) (l : ds.length ≤ sizeLine) : PlX (n + 1) (.lst ds)
  | tup {n : Nat} {ds : List Dt} (h : ∀ d ∈ ds, PlX n d) (l : ds.length ≤ sizeLine) : PlX (n + 1) (.tup ds)
  | plan (n : Nat) {p : Plan} (h : (p.map (·.1)).Nodup) (l : p.length ≤ 60) : PlX (n + 3) (planD p)
theorem Pl.x : ∀ {n : Nat} {d : Dt}, Pl n d → PlX n d
  | _, _, .non n => .non n
  | _, _, .bl n b => .bl n b
  | _, _, .int n i => .int n i
  | _, _, .str n z => .str n z
  | _, _, .lst h l => .lst (fun d hd => (h d hd).x) l
  | _, _, .tup h l => .tup (fun d hd => (h d hd).x) l
def ctAlikeX (n : Nat) : Ct := fun ss st ok _ => ∃ d, ss = [.dat d, .dat d] ∧ PlX n d ∧ ok (.dat (.bl true)) st
theorem alikeX_zero {ss : List Sv} {st : Store} {ok : OK} {ex : EK} : ctAlikeX 0 ss st ok ex → False := fun ⟨_, _, h, _⟩ => nomatch h
theorem alikeX_len {n : Nat} {ss : List Sv} {st : Store} {ok : OK} {ex : EK} : ctAlikeX n ss st ok ex → ss.length = 2 := fun ⟨_, h, _⟩ => by rw [h]; rfl
def Snd.scale (f : Int) (s : Snd) : Snd := { s with begin_ := s.begin_ * f, end_ := s.end_ * f, late := s.late * f }
def Rul.scale (f : Int) (r : Rul) : Rul := { r with before := r.before * f, after := r.after * f }
def Bk.scale (f : Int) (b : Bk) : Bk := ⟨b.rules.map (Rul.scale f), b.seen⟩
def Wi.scale (f : Int) (w : Wi) : Wi := ⟨w.n, w.s.scale f, w.r.scale f⟩
theorem scale_rule (f : Int) (b : Bk) (s : Snd) : ruleFor (b.scale f) (s.scale f) = (ruleFor b s).map (Rul.scale f) := by
  unfold ruleFor ruleOf Bk.scale
  show (if (s.show_, s.episode) ∈ b.seen then none else (b.rules.map (Rul.scale f)).find? _) = _
  rw [List.find?_map]
  split
  · rfl
  · rfl
theorem scale_mul {f : Int} (hf : 0 < f) (x y : Int) : x * f < y * f ↔ x < y := ⟨fun h => Int.lt_of_mul_lt_mul_right h (Int.le_of_lt hf), fun h => Int.mul_lt_mul_of_pos_right h hf⟩
theorem scale_sim {f : Int} (hf : 0 < f) (b : Bk) {l : Lst} (hl : LOk l) (hl' : LOk (mapS (Snd.scale f) l)) : Sim (· * f) (Wi.scale f) b l (b.scale f) (mapS (Snd.scale f) l) := by
  refine ⟨hl, hl', ?_, fun _ => rfl, fun _ => rfl, fun _ => rfl, fun _ _ => rfl, fun w hw => ?_, fun x y => scale_mul hf x y, fun n => ?_, fun w _ => ?_⟩
  · unfold wished mapS
    rw [List.filterMap_map, List.map_filterMap]
    congr 1
    funext x
    show (ruleFor (b.scale f) (x.2.scale f)).map _ = _
    rw [scale_rule, Option.map_map, Option.map_map]
    rfl
  · unfold Wi.scale Wi.win Snd.scale Rul.scale
    dsimp only
    refine Prod.ext ?_ ?_
    · dsimp only
      have h := scale_mul hf 0 (w.s.begin_ - w.r.before)
      rw [Int.zero_mul, Int.sub_mul] at h
      by_cases c : 0 < w.s.begin_ - w.r.before
      · rw [if_pos c, if_pos (h.mpr c), Int.sub_mul]
      · rw [if_neg c, if_neg (fun z => c (h.mp z)), Int.zero_mul]
    · dsimp only
      rw [Int.add_mul]
  · unfold epAt
    rw [mapS_look, Option.map_map]
    rfl
  · show w.s.late * f ≤ w.r.after * f ↔ _
    have := scale_mul hf w.r.after w.s.late
    omega
theorem scale_rounds {f : Int} (hf : 0 < f) (b : Bk) {l : Lst} (hl : LOk l) (hl' : LOk (mapS (Snd.scale f) l)) (k : Nat) : roundsOf (b.scale f) (mapS (Snd.scale f) l) k = roundsOf b l k :=
  Sim.rounds (φ := (· * f)) (σ := Wi.scale f) (P := fun b b' => b' = b.scale f) (fun b b' h => by rw [h]; exact scale_sim hf b hl hl') (fun b b' h es => by rw [h]; rfl) k 11 b (b.scale f) rfl
def scZ (f : Int) (sz : Sz) : Sz := sz.map fun x => (x.1, x.2 * f)
theorem scale_sizes {f : Int} (hf : 0 < f) (b : Bk) {l : Lst} (hl : LOk l) (hl' : LOk (mapS (Snd.scale f) l)) (k : Nat) : sizesOf (b.scale f) (mapS (Snd.scale f) l) k = scZ f (sizesOf b l k) := by
  rw [(scale_sim hf b hl hl').sizes]
  unfold sizesOf scZ
  rw [List.map_map]
  refine List.map_congr_left fun n _ => ?_
  show (n, _ * f - _ * f) = (n, (_ - _) * f)
  rw [Int.sub_mul]
theorem scz_look (f : Int) (sz : Sz) (n : Str) : (look (scZ f sz) n).getD 0 = (look sz n).getD 0 * f := by
  unfold look scZ
  rw [List.find?_map]
  show (Option.map _ (Option.map _ (sz.find? fun x => decide (x.1 = n)))).getD 0 = _
  cases sz.find? fun x => decide (x.1 = n) with
  | none => show (0 : Int) = 0 * f; rw [Int.zero_mul]
  | some x => rfl
theorem scz_mins (f : Int) (sz : Sz) : ∀ ns : List Str, mins (scZ f sz) ns = mins sz ns * f
  | [] => by rw [mins_nil, mins_nil, Int.zero_mul]
  | n :: ns => by rw [mins_cons, mins_cons, scz_mins f sz ns, scz_look, Int.add_mul]
theorem scz_evict {f : Int} (hf : 0 < f) (sz : Sz) (t : List Str) (m s : Int) : ∀ (n : Nat) (x : List Str × List Str), evict (scZ f sz) t (m * f) (s * f) n x = evict sz t m s n x
  | 0, _ => rfl
  | n + 1, x => by
    rw [evict, evict, scz_mins, ← Int.add_mul]
    have h := scale_mul hf m (mins sz x.1 + s)
    by_cases c : m < mins sz x.1 + s
    · rw [if_pos c, if_pos (h.mpr c)]
      cases x.1.filter fun o => !isIn t o with
      | nil => rfl
      | cons e es => exact scz_evict hf sz t m s n _
    · rw [if_neg c, if_neg fun z => c (h.mp z)]
theorem scz_disk {f : Int} (hf : 0 < f) (sz : Sz) (t : List Str) (m : Int) : diskOf (scZ f sz) t (m * f) = diskOf sz t m := by
  have step : ∀ (a : Dk) (x : Str × Int), dkStep (scZ f sz) t (m * f) a (x.1, x.2 * f) = dkStep sz t m a x := fun a x => by
    unfold dkStep
    rw [scz_mins, ← Int.sub_mul]
    have h := scale_mul hf (m - mins sz (a.kept.filter (isIn t))) x.2
    by_cases c : m - mins sz (a.kept.filter (isIn t)) < x.2
    · rw [if_pos c, if_pos (h.mpr c)]
    · rw [if_neg c, if_neg fun z => c (h.mp z)]
      dsimp only
      rw [scz_evict hf]
  have key : ∀ (es : Sz) (a : Dk), (scZ f es).foldl (dkStep (scZ f sz) t (m * f)) a = es.foldl (dkStep sz t m) a := by
    intro es
    induction es with
    | nil => intro a; rfl
    | cons e es ih =>
      intro a
      show (scZ f es).foldl _ (dkStep (scZ f sz) t (m * f) a (e.1, e.2 * f)) = _
      rw [step, ih]
      rfl
  exact key sz _
end SP
namespace SP
open PySem PySem.Spec PyProof.Rows L2 DD
theorem need_nil (sz : Sz) (x : Str × Nat) : need1 sz [] x = (look sz x.1).getD 0 := by
  unfold need1
  have : ((sz.map (·.1)).take x.2).filter (isIn []) = [] := List.filter_eq_nil_iff.mpr fun n _ => by unfold isIn; simp
  rw [this, mins_nil, Int.add_zero]
theorem needs_nil {sz : Sz} (h : SzOk sz) : needs sz [] = sz.map (·.2) := by
  unfold needs
  rw [show need1 sz [] = fun x => (look sz x.1).getD 0 from funext (need_nil sz)]
  have e : ((sz.map (·.1)).zipIdx.map fun x => (look sz x.1).getD 0) = ((sz.map (·.1)).zipIdx.map (·.1)).map fun n => (look sz n).getD 0 := by rw [List.map_map]; rfl
  rw [e, List.zipIdx_map_fst, List.map_map]
  exact List.map_congr_left fun x hx => by
    show (look sz x.1).getD 0 = x.2
    rw [h.look hx]
    rfl
theorem needs_scz {f : Int} {sz : Sz} (h : SzOk sz) : needs (scZ f sz) [] = (sz.map (·.2)).map (· * f) := by
  unfold needs
  rw [show need1 (scZ f sz) [] = fun x => (look sz x.1).getD 0 * f from funext fun x => by rw [need_nil, scz_look]]
  have ek : (scZ f sz).map (·.1) = sz.map (·.1) := by unfold scZ; rw [List.map_map]; rfl
  have e : ((sz.map (·.1)).zipIdx.map fun x => (look sz x.1).getD 0 * f) = ((sz.map (·.1)).zipIdx.map (·.1)).map fun n => (look sz n).getD 0 * f := by rw [List.map_map]; rfl
  rw [ek, e, List.zipIdx_map_fst, List.map_map, List.map_map]
  exact List.map_congr_left fun x hx => by
    show (look sz x.1).getD 0 * f = x.2 * f
    rw [h.look hx]
    rfl
theorem max_scale {f : Int} (hf : 2 ≤ f) {L : List Int} (hne : L ≠ []) (h1 : ∀ x ∈ L, 1 ≤ x) : (L.map (· * f)).foldl max 1 = L.foldl max 1 * f := by
  obtain ⟨a1, a2, a3⟩ := foldl_max L 1
  obtain ⟨c1, c2, c3⟩ := foldl_max (L.map (· * f)) 1
  have hm : L.foldl max 1 ∈ L := by
    rcases List.mem_cons.mp a3 with e | e
    · cases L with
      | nil => exact absurd rfl hne
      | cons x xs =>
        have q1 := a2 x List.mem_cons_self
        have q2 := h1 x List.mem_cons_self
        rw [e] at q1 ⊢
        rw [show (1 : Int) = x from by omega]
        exact List.mem_cons_self
    · exact e
  have d1 := c2 _ (List.mem_map.mpr ⟨_, hm, rfl⟩)
  have d2 : L.foldl max 1 * f ≥ 1 * 2 := Int.mul_le_mul a1 hf (by decide) (by omega)
  refine Int.le_antisymm ?_ d1
  rcases List.mem_cons.mp c3 with e | e
  · rw [e] at d1 ⊢
    omega
  · obtain ⟨x, hx, e⟩ := List.mem_map.mp e
    rw [← e]
    exact Int.mul_le_mul_of_nonneg_right (a2 x hx) (by omega)
structure ScOk (b : Bk) (l : Lst) (f : Int) : Prop where
  bk : BOk b
  bk' : BOk (b.scale f)
  ok : LOk l
  ok' : LOk (mapS (Snd.scale f) l)
  f2 : 2 ≤ f
  f12 : f ≤ 12
  small : ∀ x ∈ l, x.2.end_ ≤ 58
  pads : ∀ r ∈ b.rules, r.after ≤ 5
theorem ScOk.sim {b : Bk} {l : Lst} {f : Int} (m : ScOk b l f) : Sim (· * f) (Wi.scale f) b l (b.scale f) (mapS (Snd.scale f) l) := scale_sim (by have := m.f2; omega) b m.ok m.ok'
theorem ScOk.sizes {b : Bk} {l : Lst} {f : Int} (m : ScOk b l f) (k : Nat) : sizesOf (b.scale f) (mapS (Snd.scale f) l) k = scZ f (sizesOf b l k) := scale_sizes (by have := m.f2; omega) b m.ok m.ok' k
theorem ScOk.le {b : Bk} {l : Lst} {f : Int} (m : ScOk b l f) (k : Nat) : ∀ x ∈ sizesOf b l k, x.2 ≤ 63 := fun x hx => by
  have hn := own_wn m.ok x.1 ((sizes_perm b l k).mem_iff.mp (List.mem_map.mpr ⟨x, hx, rfl⟩))
  unfold sizesOf at hx
  obtain ⟨n, _, rfl⟩ := List.mem_map.mp hx
  obtain ⟨w, hw, e⟩ := List.mem_map.mp hn
  have e : w.n = n := e
  subst e
  dsimp only
  rw [win_is m.ok hw]
  have h1 := (win_lo m.bk m.ok hw).1
  have h2 : w.s.end_ ≤ 58 := m.small _ (wished_mem.mp hw).1
  have h3 := m.pads _ (wi_rule hw)
  have h4 : w.win.2 = w.s.end_ + w.r.after := rfl
  omega
theorem ScOk.least {b : Bk} {l : Lst} {f : Int} (m : ScOk b l f) (k : Nat) : ∃ z, leastOf (sizesOf b l k) [] = some z ∧ leastOf (scZ f (sizesOf b l k)) [] = some (if ownPlan b l k = [] then 1 else z * f) := by
  have hok := sizes_ok m.bk m.ok k
  have hle := m.le k
  have hf2 := m.f2
  have hf12 := m.f12
  have hlen := (sizes_perm b l k).length_eq
  rw [List.length_map, List.length_map] at hlen
  refine ⟨(needs (sizesOf b l k) []).foldl max 1, ?_, ?_⟩
  · unfold leastOf
    rw [if_pos]
    rw [needs_nil hok]
    obtain ⟨_, _, a3⟩ := foldl_max ((sizesOf b l k).map (·.2)) 1
    rcases List.mem_cons.mp a3 with e | e
    · rw [e]; decide
    · obtain ⟨x, hx, e⟩ := List.mem_map.mp e
      rw [← e]
      have := hle x hx
      omega
  · have hval : (needs (scZ f (sizesOf b l k)) []).foldl max 1 = if ownPlan b l k = [] then 1 else (needs (sizesOf b l k) []).foldl max 1 * f := by
      rw [needs_scz hok, needs_nil hok]
      by_cases c : ownPlan b l k = []
      · rw [if_pos c]
        have : sizesOf b l k = [] := by
          rw [c] at hlen
          exact List.eq_nil_of_length_eq_zero hlen
        rw [this]
        rfl
      · rw [if_neg c]
        refine max_scale hf2 (fun z => c ?_) fun x hx => ?_
        · have := congrArg List.length z
          rw [List.length_map] at this
          exact List.eq_nil_of_length_eq_zero (by rw [← hlen]; exact this)
        · obtain ⟨y, hy, rfl⟩ := List.mem_map.mp hx
          exact hok.pos y hy
    unfold leastOf
    rw [if_pos, hval]
    rw [needs_scz hok]
    obtain ⟨_, _, a3⟩ := foldl_max (((sizesOf b l k).map (·.2)).map (· * f)) 1
    rcases List.mem_cons.mp a3 with e | e
    · rw [e]; decide
    · obtain ⟨y, hy, e⟩ := List.mem_map.mp e
      obtain ⟨x, hx, rfl⟩ := List.mem_map.mp hy
      rw [← e]
      have q1 := hle x hx
      have q2 := hok.pos x hx
      have : x.2 * f ≤ 63 * 12 := Int.mul_le_mul q1 hf12 (by omega) (by decide)
      omega
theorem scale_bok {b : Bk} {f : Int} (hb : BOk b) (h : ∀ r ∈ b.rules, SmallR r) (h2 : 2 ≤ f) (h12 : f ≤ 12) : BOk (b.scale f) := by
  refine ⟨by unfold Bk.scale; dsimp only; rw [List.length_map]; exact hb.len, fun x hx => ?_, hb.seen, hb.sok⟩
  obtain ⟨r, hr, rfl⟩ := List.mem_map.mp hx
  obtain ⟨c0, c1, c2, c3, c4, c5, c6, c7, c8, c9⟩ := hb.ok r hr
  obtain ⟨s1, s2, _⟩ := h r hr
  have e1 : r.before * f ≤ 3 * 12 := Int.mul_le_mul s1 h12 (by omega) (by decide)
  have e2 : r.after * f ≤ 5 * 12 := Int.mul_le_mul s2 h12 (by omega) (by decide)
  have e3 : 0 ≤ r.before * f := Int.mul_nonneg c6 (by omega)
  have e4 : 0 ≤ r.after * f := Int.mul_nonneg c8 (by omega)
  exact ⟨c0, c1, c2, c3, c4, c5, e3, by unfold Rul.scale; dsimp only; omega, e4, by unfold Rul.scale; dsimp only; omega⟩
theorem scale_lok {l : Lst} {f : Int} (hl : LOk l) (h7 : ∀ x ∈ l, SmallT x) (hlt : ∀ x ∈ l, x.2.late ≤ 5) (h2 : 2 ≤ f) (h12 : f ≤ 12) : LOk (mapS (Snd.scale f) l) := by
  refine ⟨by unfold mapS; rw [List.length_map]; exact hl.len, by rw [mapS_keys]; exact hl.nd, fun x hx => ?_⟩
  obtain ⟨y, hy, rfl⟩ := List.mem_map.mp hx
  obtain ⟨h1, h3⟩ := hl.ok y hy
  have t := h7 y hy
  have q := hlt y hy
  have n0 := h3.n0
  have b0 := h3.b0
  have l0 := h3.l0
  have tb := t.b
  have te := t.e
  have e1 : y.2.begin_ * f ≤ 39 * 12 := Int.mul_le_mul tb h12 (by omega) (by decide)
  have e2 : y.2.end_ * f ≤ 58 * 12 := Int.mul_le_mul te h12 (by omega) (by decide)
  have e3 : y.2.late * f ≤ 5 * 12 := Int.mul_le_mul q h12 (by omega) (by decide)
  have e4 : 0 ≤ y.2.begin_ * f := Int.mul_nonneg b0 (by omega)
  have e5 : 0 ≤ y.2.late * f := Int.mul_nonneg l0 (by omega)
  have e6 : y.2.begin_ * f < y.2.end_ * f := (scale_mul (by omega) _ _).mpr n0
  refine ⟨h1, h3.ch, h3.sh, h3.e1, h3.e2, e4, ?_, e6, ?_, e5, ?_⟩ <;> (unfold Snd.scale; dsimp only; omega)
@[irreducible] def ctSizes (C : Cl) : Ct := fun ss st ok _ => ∃ (p q : Addr) (a i : Int) (xs : List Int) (st0 : Store) (b : Bk) (l : Lst) (k : Nat) (f : Int), ss = [.own p, .dat (.tup [b.d C, lstD C l]), .dat (.tup [(b.scale f).d C, lstD C (mapS (Snd.scale f) l)]), dI (k : Int), .dat (planD (ownPlan b l k)), dI f] ∧ st = (p, obH q a i) :: (q, obX xs) :: st0 ∧ xs.length ≤ 63 ∧ ScOk b l f ∧ 1 ≤ k ∧ k ≤ 10 ∧
  ∀ a' i' xs', xs'.length ≤ 63 → ok (.dat (.bl true)) ((p, obH q a' i') :: (q, obX xs') :: st0)
theorem ctSizes_eq (C : Cl) {ss : List Sv} {st : Store} {ok : OK} {ex : EK} : ctSizes C ss st ok ex = ∃ (p q : Addr) (a i : Int) (xs : List Int) (st0 : Store) (b : Bk) (l : Lst) (k : Nat) (f : Int), ss = [.own p, .dat (.tup [b.d C, lstD C l]), .dat (.tup [(b.scale f).d C, lstD C (mapS (Snd.scale f) l)]), dI (k : Int), .dat (planD (ownPlan b l k)), dI f] ∧ st = (p, obH q a i) :: (q, obX xs) :: st0 ∧ xs.length ≤ 63 ∧ ScOk b l f ∧ 1 ≤ k ∧ k ≤ 10 ∧
  ∀ a' i' xs', xs'.length ≤ 63 → ok (.dat (.bl true)) ((p, obH q a' i') :: (q, obX xs') :: st0) := by unfold ctSizes; rfl
end SP
namespace SP
open PySem PySem.Spec PyProof.Rows L2 DD
def SmallL (x : Str × Snd) : Prop := SmallT x ∧ x.2.late ≤ 4
@[irreducible] def ctLSendsL : Ct := fun ss st ok _ => ∃ (p q : Addr) (a i : Int) (xs : List Int) (st0 : Store) (m : Int), ss = [.own p, dI m] ∧ st = (p, obH q a i) :: (q, obX xs) :: st0 ∧ xs.length ≤ 63 ∧ 0 ≤ m ∧ m ≤ 7 ∧
  ∀ l a' i' xs', LOk l → (∀ x ∈ l, SmallL x) → l.length ≤ m.toNat → xs'.length ≤ 63 → ok (.dat (dicD sndT l)) ((p, obH q a' i') :: (q, obX xs') :: st0)
theorem ctLSendsL_eq {ss : List Sv} {st : Store} {ok : OK} {ex : EK} : ctLSendsL ss st ok ex = ∃ (p q : Addr) (a i : Int) (xs : List Int) (st0 : Store) (m : Int), ss = [.own p, dI m] ∧ st = (p, obH q a i) :: (q, obX xs) :: st0 ∧ xs.length ≤ 63 ∧ 0 ≤ m ∧ m ≤ 7 ∧
  ∀ l a' i' xs', LOk l → (∀ x ∈ l, SmallL x) → l.length ≤ m.toNat → xs'.length ≤ 63 → ok (.dat (dicD sndT l)) ((p, obH q a' i') :: (q, obX xs') :: st0) := by unfold ctLSendsL; rfl
@[irreducible] def ctLDrawnL : Ct := fun ss st ok _ => ∃ (p q : Addr) (a i : Int) (xs : List Int) (st0 : Store) (m : Int), ss = [.own p, dI m] ∧ st = (p, obH q a i) :: (q, obX xs) :: st0 ∧ p ≠ q ∧ p ∉ keys st0 ∧ q ∉ keys st0 ∧ xs.length ≤ 63 ∧ 0 ≤ m ∧ m ≤ 7 ∧
  ∀ b l a' i' xs', BOk b → b.rules.length ≤ 4 → (∀ x ∈ b.rules, SmallR x) → b.seen.length ≤ 1 → LOk l → (∀ x ∈ l, SmallL x) → l.length ≤ m.toNat → xs'.length ≤ 63 → ok (.dat (drawnD b l)) ((p, obH q a' i') :: (q, obX xs') :: st0)
theorem ctLDrawnL_eq {ss : List Sv} {st : Store} {ok : OK} {ex : EK} : ctLDrawnL ss st ok ex = ∃ (p q : Addr) (a i : Int) (xs : List Int) (st0 : Store) (m : Int), ss = [.own p, dI m] ∧ st = (p, obH q a i) :: (q, obX xs) :: st0 ∧ p ≠ q ∧ p ∉ keys st0 ∧ q ∉ keys st0 ∧ xs.length ≤ 63 ∧ 0 ≤ m ∧ m ≤ 7 ∧
  ∀ b l a' i' xs', BOk b → b.rules.length ≤ 4 → (∀ x ∈ b.rules, SmallR x) → b.seen.length ≤ 1 → LOk l → (∀ x ∈ l, SmallL x) → l.length ≤ m.toNat → xs'.length ≤ 63 → ok (.dat (drawnD b l)) ((p, obH q a' i') :: (q, obX xs') :: st0) := by unfold ctLDrawnL; rfl
end SP
namespace SP
open PySem PySem.Spec PyProof.Rows L2 DD
theorem scale_sub (f : Int) (l : Lst) (t : List Str) : subL (mapS (Snd.scale f) l) t = mapS (Snd.scale f) (subL l t) := by
  have e : subL (mapS (Snd.scale f) l) t = t.filterMap fun n => ((look l n).map fun s => (n, s)).map fun x => (x.1, x.2.scale f) := by
    unfold subL
    congr 1
    funext n
    rw [mapS_look, Option.map_map, Option.map_map]
    rfl
  rw [e]
  unfold subL mapS
  rw [List.map_filterMap]
theorem find_congr {α : Type} {p q : α → Bool} : ∀ {L : List α}, (∀ x ∈ L, p x = q x) → L.find? p = L.find? q
  | [], _ => rfl
  | x :: L, h => by
    rw [List.find?_cons, List.find?_cons, h x List.mem_cons_self, find_congr fun y hy => h y (List.mem_cons_of_mem _ hy)]
theorem scale_in {f : Int} {l : Lst} {t : List Str} (h : In l t) : In (mapS (Snd.scale f) l) t := ⟨h.asc, fun n hn => by rw [mapS_keys]; exact h.mem n hn⟩
theorem scale_diff {f : Int} (hf : 0 < f) (b c : Bk) {l : Lst} (hl : LOk l) (hl' : LOk (mapS (Snd.scale f) l)) (k : Nat) : leastDiff (b.scale f) (c.scale f) (mapS (Snd.scale f) l) k = leastDiff b c l k := by
  unfold leastDiff
  have e1 : (mapS (Snd.scale f) l).length = l.length := by unfold mapS; rw [List.length_map]
  rw [mapS_keys, e1]
  refine find_congr fun t ht => ?_
  obtain ⟨_, h2, h3⟩ := (subs_mem str_ord _ _ t).mp ht
  have hin : In l t := ⟨h2, h3⟩
  have o1 := sub_ok hl hin
  have o2 := sub_ok hl' (scale_in (f := f) hin)
  unfold differs
  rw [scale_sub] at o2 ⊢
  rw [(scale_sim hf b o1 o2).own, (scale_sim hf c o1 o2).own]
theorem scale_rev (f : Int) (b : Bk) : (⟨(b.scale f).rules.reverse, b.seen⟩ : Bk) = (⟨b.rules.reverse, b.seen⟩ : Bk).scale f := by
  unfold Bk.scale
  dsimp only
  rw [List.map_reverse]
theorem rev_ok {b : Bk} (hb : BOk b) : BOk ⟨b.rules.reverse, b.seen⟩ := ⟨by show b.rules.reverse.length ≤ 6; rw [List.length_reverse]; exact hb.len, fun x hx => hb.ok x (List.mem_reverse.mp hx), hb.seen, hb.sok⟩
end SP
namespace SP
open PySem PySem.Spec PyProof.Rows L2 DD
def ctLaw : Ct := fun ss st ok _ => ∃ ns : List Int, ss = [.dat (.fls (ns.map Dt.int))] ∧ ns.length ≤ 63 ∧ st = [] ∧ ok (.dat (.bl true)) []
end SP
namespace DD
open PySem PySem.Spec PyProof.Rows L2
end DD
namespace DD
open PySem PySem.Spec PyProof.Rows L2
end DD
namespace DD
open PySem PySem.Spec PyProof.Rows L2
theorem pick_rev (items : Array Value) : (List.filterMap (fun k : Nat => items[(((items.size : Int) - 1) + (k : Int) * (-1)).toNat]?) (List.range items.size)).toArray = items.toList.reverse.toArray := by
  congr 1
  apply List.ext_getElem?
  intro i
  have e : (fun k : Nat => items[(((items.size : Int) - 1) + (k : Int) * (-1)).toNat]?) = fun k : Nat => items.toList[(((items.size : Int) - 1) + (k : Int) * (-1)).toNat]? := by
    funext k
    rw [Array.getElem?_toList]
  rw [e]
  have hn : items.size = items.toList.length := rfl
  rw [hn]
  generalize items.toList = xs
  have key : (List.range xs.length).filterMap (fun k : Nat => xs[(((xs.length : Int) - 1) + (k : Int) * (-1)).toNat]?) = xs.reverse := by
    have h1 : ∀ k ∈ List.range xs.length, xs[(((xs.length : Int) - 1) + (k : Int) * (-1)).toNat]? = some (xs.reverse.getD k Value.none) := fun k hk => by
      have hk := List.mem_range.mp hk
      rw [show (((xs.length : Int) - 1) + (k : Int) * (-1)).toNat = xs.length - 1 - k from by omega]
      rw [List.getD_eq_getElem?_getD, List.getElem?_reverse hk, List.getElem?_eq_getElem (by omega)]
      rfl
    rw [show (List.range xs.length).filterMap (fun k : Nat => xs[(((xs.length : Int) - 1) + (k : Int) * (-1)).toNat]?) = (List.range xs.length).filterMap (fun k => some (xs.reverse.getD k Value.none)) from ?_]
    · rw [show (fun k => some (xs.reverse.getD k Value.none)) = some ∘ fun k => xs.reverse.getD k Value.none from rfl, List.filterMap_eq_map]
      apply List.ext_getElem?
      intro j
      by_cases hj : j < xs.length
      · rw [List.getElem?_map, List.getElem?_range hj, List.getElem?_reverse hj]
        show some (xs.reverse.getD j Value.none) = _
        rw [List.getD_eq_getElem?_getD, List.getElem?_reverse hj, List.getElem?_eq_getElem (by omega)]
        rfl
      · rw [List.getElem?_eq_none (by rw [List.length_map, List.length_range]; omega), List.getElem?_eq_none (by rw [List.length_reverse]; omega)]
    · generalize List.range xs.length = L at h1
      induction L with
      | nil => rfl
      | cons a L ih =>
        rw [List.filterMap_cons, List.filterMap_cons, h1 a List.mem_cons_self, ih fun k hk => h1 k (List.mem_cons_of_mem _ hk)]
  rw [key]
theorem sliceApplied_rev {prog : Program} {w : World} {A : Around} {E : Value → Shared → Prop} {s : Shared} {sl : Addr} {vs : Value} {n : Nat} {Q : Int × Int × Nat → Shared → Prop} (hs : s.heap.IsSliceOf sl Value.none Value.none vs) (ps : IsPart vs (some (-1))) (h : Q ((n : Int) - 1, -1, n) s) : wpAny (model prog w) A (Builtin.Slice.sliceApplied (Value.ref sl) (pure (n : Int))) Q E s := by
  obtain ⟨os, hos, hcs, hds⟩ := id hs
  unfold Builtin.Slice.sliceApplied Builtin.Slice.sliceFields
  refine wpAny_bind (wpAny_bind (wpAny_field hos hds rfl (wpAny_bind (wpAny_field hos hds rfl (wpAny_bind (wpAny_field hos hds rfl (wpAny_pure ?_)))))))
  dsimp only
  refine wpAny_bind (HT.slicePart_ ps ?_)
  show wpAny _ _ (if ((-1 : Int) == 0) = true then _ else _) _ _ _
  rw [if_neg (by decide)]
  refine wpAny_bind (slicePart_none ?_)
  refine wpAny_bind (slicePart_none ?_)
  refine wpAny_bind (wpAny_pure ?_)
  have e1 : (Builtin.Slice.sliceAdjust none none ((some (-1)).getD 1) (n : Int)).1 = (n : Int) - 1 := by
    unfold Builtin.Slice.sliceAdjust
    simp
  have e2 : (Builtin.Slice.sliceAdjust none none ((some (-1)).getD 1) (n : Int)).2 = -1 := by
    unfold Builtin.Slice.sliceAdjust
    simp
  have e3 : Builtin.Slice.slicePlaces ((n : Int) - 1) (-1) ((some (-1)).getD 1) = n := by
    unfold Builtin.Slice.slicePlaces
    simp
    try omega
  rw [e1, e2, e3]
  exact wpAny_pure h
theorem getItem_tuple_rev {prog : Program} {w : World} {A : Around} {E : Value → Shared → Prop} {s : Shared} {t sl : Addr} {items : Array Value} {vs : Value} {Q : Value → Shared → Prop} (ht : IsTup s.heap t items) (hs : s.heap.IsSliceOf sl Value.none Value.none vs) (ps : IsPart vs (some (-1)))
    (h : Q (Value.ref s.heap.objs.size) { s with heap := s.heap.push { cls := Value.type "tuple", data := Data.seq items.toList.reverse.toArray } }) (hsz : items.size ≤ sizeLine) : wpAny (model prog w) A (getItem (Value.ref t) (Value.ref sl)) Q E s := by
  obtain ⟨os, hos, hcs, hds⟩ := id hs
  have hTs : s.TypeIs (.ref sl) "slice" := ⟨os, hos, hcs⟩
  have hl : items.toList.reverse.toArray.size ≤ sizeLine := by rw [List.size_toArray, List.length_reverse, Array.length_toList]; exact hsz
  refine wpAny_holding (wpAny_bind (wpAny_sequenceKey (IsTup.typeIs ht) (by decide) (wpAny_bind (wpAny_callSpecial?_slot (IsTup.typeIs ht) slot_tuple_getitem (wpAny_call_entry slot_tuple_getitem (IsTup.typeIs ht) entry_tuple_getitem ?_ (args_tuple_getitem (Value.ref t) (Value.ref sl)))))))
  show wpAny _ _ (Builtin.Tuple.tupleItemsOf (.ref t) >>= _) _ _ _
  refine wpAny_bind (tupleItemsOf_ ht (wpAny_bind (wpAny_typeOf hTs ?_)))
  rw [if_pos (by decide)]
  refine wpAny_bind (sliceApplied_rev hs ps ?_)
  dsimp only
  rw [if_neg (by simp), pick_rev]
  refine wpAny_bind (wpAny_newObj_type (wpAny_pure ?_) hl)
  exact ⟨_, rfl, wpAny_pure h⟩
def tRevT (K : PySem.W.Frag) (te : TE) : TE := fun σ H Q => te σ H fun x H1 => ∃ (a : Addr) (xs : List V), x = V.ref a ∧ SqT K H1 a xs ∧ ∀ p : Addr, H1 p = none → Q (V.ref p) (upd H1 p (HO.tup xs.reverse))
theorem pe_revT {X : Cx} {e : Expr} {te : TE} {k : Nat} {p1 p2 p3 pos : Pos} (he : PE X e te) : PE X (.Subscript e (.Slice none none (some (.UnaryOp .USub (.Constant (.int 1) k p1) p2)) p3) pos) (tRevT X.K te) := by
  constructor
  intro pins s σ H Q I h
  refine Subscript_ (thn (he.run pins s σ H _ I h) ?_)
  rintro v s1 ⟨x, H1, I1, r1, a, xs, rfl, hx, q⟩
  obtain rfl : v = Value.ref a := by first | exact r1 | exact r1.symm | (cases r1; rfl)
  refine wpAny_Slice (thn (po_none.run pins s1 σ H1 (fun o H2 => o = none ∧ H2 = H1) I1 ⟨rfl, rfl⟩) ?_)
  rintro vl s2 ⟨l, H2, I2, pl, rfl, rfl⟩
  refine thn (po_none.run pins s2 σ H2 (fun o H3 => o = none ∧ H3 = H2) I2 ⟨rfl, rfl⟩) ?_
  rintro vu s3 ⟨u, H3, I3, pu, rfl, rfl⟩
  have hst : PO X (some (Expr.UnaryOp UnaryOp.USub (Expr.Constant (Const.int 1) k p1) p2)) _ := po_some (pe_un un_neg pe_int)
  refine thn (hst.run pins s3 σ H3 (fun o H4 => o = some (-1) ∧ H4 = H3) I3 ⟨1, rfl, -1, rfl, rfl, rfl⟩) ?_
  rintro vs s4 ⟨o, H4, I4, ps, rfl, rfl⟩
  have I5 := Inv.kept (t' := s4.toks) I4 fun b ob q => Heap.get?_push_of_some { cls := Value.type "slice", data := Data.fields #[vl, vu, vs] } q
  obtain ⟨its, r, ht, hz⟩ := Inv.tuple I5 hx
  have hlen := Vals.length r
  cases pl
  cases pu
  refine tail_any ht.typeIs slot_tuple_getitem.lookup (getItem_tuple_rev ht (Heap.IsSliceOf.new s4.1 Value.none Value.none vs) ps ?_ (by rw [List.size_toArray]; omega)) rfl
  refine ⟨V.ref _, upd H4 _ (HO.tup xs.reverse), ?_, rfl, q _ (HOk.fresh I5.hok (Nat.le_refl _))⟩
  have hp : its.toArray.toList.reverse.toArray = its.reverse.toArray := rfl
  refine Inv.laid (t' := s4.toks) I5 (fun b ob q => Heap.get?_push_of_some _ q) (Nat.le_refl _) ?_
  refine ⟨by rw [List.length_reverse]; exact hz, its.reverse, Vals.reverse r, ?_⟩
  rw [hp]
  first | exact ⟨_, 0, Heap.get?_push_size _ rfl, rfl, rfl⟩ | exact ⟨_, Heap.get?_push_size _ rfl, rfl, _, rfl⟩ | exact ⟨_, Heap.get?_push_size _ rfl, rfl, rfl⟩ | exact ⟨_, _, Heap.get?_push_size _ rfl⟩ | exact ⟨_, Heap.get?_push_size _ rfl⟩ | exact Heap.get?_push_size _ rfl
def dRevT (te : DE) : DE := fun Δ st ok ex => te Δ st (fun x st1 => withT x fun xs => ∃ ds, AllD xs.reverse ds ∧ ok (.dat (.tup ds)) st1) ex
theorem low_revT {K : PySem.W.Frag} {W : WX} {te : DE} : ∀ σ H Q, low K (dRevT te) W σ H Q → tRevT K (low K te W) σ H Q := by
  rintro σ H Q ⟨Δ, st, I, ok, ex, wd, sl, h, c, cx⟩
  refine low_go wd sl h (fun x st1 v I1 H1 h1 w1 s1 i1 => ?_) cx
  obtain ⟨a, vs, xs, rfl, hs, hp, ds, ha, h3⟩ := withT_rd w1 i1 h1
  refine ⟨a, vs, rfl, hs, fun p hp' => ?_⟩
  obtain ⟨w4, s4⟩ := new_known (o := .tup vs.reverse) w1 hp'
  exact c _ _ _ _ _ h3 w4 (s1.trans s4) (.dat (.tup upd_same ((isDs_of ha (paired_rev hp)).mono (Ex.new (w1.sub.none hp')))))
theorem drevT {X : Cx} {W : WX} {e : Expr} {te : DE} {k : Nat} {p1 p2 p3 pos : Pos} (he : PEd X W e te) : PEd X W (.Subscript e (.Slice none none (some (.UnaryOp .USub (.Constant (.int 1) k p1) p2)) p3) pos) (dRevT te) := PE.imp (pe_revT he) low_revT
end DD
namespace K73
open PySem PySem.Spec PyProof.Rows L2 DD SP
local macro_rules | `(tactic| walk_at "w") => `(tactic| (conv => whnf))
local macro_rules | `(tactic| walk_at "s") => `(tactic| (walk_at "w"; first
  | (refine And.intro (fun h => absurd h (by decide)) (fun _ => ?_))
  | (refine And.intro (fun _ => ?_) (fun h => absurd h (by decide)))
  | (refine And.intro (fun h => no_nd h) (fun _ => ?_))
  | (refine And.intro (fun _ => ?_) (fun h => no_d h))))
local macro_rules | `(tactic| walk_at "ss") => `(tactic| ((repeat walk_at "s"); walk_at "w"))
local macro_rules | `(tactic| walk_at "sl") => `(tactic| ((repeat (first | walk_at "s" | refine Or.inl ?_)); walk_at "w"))
local macro_rules | `(tactic| walk_at "sr") => `(tactic| ((repeat (first | walk_at "s" | refine Or.inr ?_)); walk_at "w"))
local macro_rules | `(tactic| walk_at "d") => `(tactic| (walk_at "w"; first
  | (refine And.intro (fun h => absurd h (by decide)) (fun _ => ?_))
  | (refine And.intro (fun _ => ?_) (fun h => absurd h (by decide)))
  | (refine And.intro (fun h => no_nd h) (fun _ => ?_))
  | (refine And.intro (fun _ => ?_) (fun h => no_d h))
  | (refine Exists.intro _ (Exists.intro _ (And.intro (by assumption) ?_)))
  | (refine Exists.intro _ (And.intro rfl ?_))
  | (refine And.intro (by decide) ?_)))
local macro_rules | `(tactic| walk_at "z") => `(tactic| (walk_at "w"; refine And.intro (by first
  | (unfold CPow; decide)
  | (simp only [List.length_cons, List.length_nil, List.length_map, sizeLine_eq]; decide)) ?_))
local macro_rules | `(tactic| walk_at "zz") => `(tactic| ((repeat walk_at "z"); walk_at "w"))
local macro_rules | `(tactic| walk_at "dd") => `(tactic| (repeat walk_at "d"))
local macro_rules | `(tactic| walk_at "yy") => `(tactic| ((repeat (first | walk_at "z" | walk_at "d")); walk_at "w"))
local macro_rules | `(tactic| walk_at "f") => `(tactic| (walk_at "w"; refine ⟨_, _, .keep (List.Sublist.refl _), ?_⟩))
def top (i : Nat) : Stmt := PySem.Challenge.pw_fewtuners_k73_whole_hours_made_longer.main.body.getD i (.Pass ⟨0, 0, 0, 0⟩)
abbrev s_is_word : Stmt := top 15
theorem sc_is_word : FnScope ["value", "letter"] ["value"] (defScope s_is_word) := ⟨rfl, rfl, rfl, by decide +kernel, rfl, by decide +kernel, by decide +kernel⟩
abbrev s_is_number : Stmt := top 16
theorem sc_is_number : FnScope ["value", "least", "greatest"] ["value", "least", "greatest"] (defScope s_is_number) := ⟨rfl, rfl, rfl, by decide +kernel, rfl, by decide +kernel, by decide +kernel⟩
abbrev s_Rule_eq : Stmt := inClass (top 69) 7
abbrev s_Book_eq : Stmt := inClass (top 70) 5
abbrev s_Sending_eq : Stmt := inClass (top 83) 7
abbrev s_Listing_getitem : Stmt := inClass (top 84) 5
theorem sc_Listing_getitem : FnScope ["self", "name"] ["self", "name"] (defScope s_Listing_getitem) := ⟨rfl, rfl, rfl, by decide +kernel, rfl, by decide +kernel, by decide +kernel⟩
abbrev s_Listing_contains : Stmt := inClass (top 84) 6
theorem sc_Listing_contains : FnScope ["self", "name"] ["self", "name"] (defScope s_Listing_contains) := ⟨rfl, rfl, rfl, by decide +kernel, rfl, by decide +kernel, by decide +kernel⟩
abbrev s_Listing_len : Stmt := inClass (top 84) 7
theorem sc_Listing_len : FnScope ["self"] ["self"] (defScope s_Listing_len) := ⟨rfl, rfl, rfl, by decide +kernel, rfl, by decide +kernel, by decide +kernel⟩
abbrev s_Listing_eq : Stmt := inClass (top 84) 8
abbrev s_is_receivers : Stmt := top 17
theorem sc_is_receivers : FnScope ["value"] ["value"] (defScope s_is_receivers) := ⟨rfl, rfl, rfl, by decide +kernel, rfl, by decide +kernel, by decide +kernel⟩
abbrev s_check_receivers : Stmt := top 18
theorem sc_check_receivers : FnScope ["value"] ["value"] (defScope s_check_receivers) := ⟨rfl, rfl, rfl, by decide +kernel, rfl, by decide +kernel, by decide +kernel⟩
abbrev s_check_number : Stmt := top 19
theorem sc_check_number : FnScope ["value", "least", "greatest"] ["value", "least", "greatest"] (defScope s_check_number) := ⟨rfl, rfl, rfl, by decide +kernel, rfl, by decide +kernel, by decide +kernel⟩
abbrev s_Rule_show : Stmt := inClass (top 69) 1
theorem sc_Rule_show : FnScope ["self"] ["self"] (defScope s_Rule_show) := ⟨rfl, rfl, rfl, by decide +kernel, rfl, by decide +kernel, by decide +kernel⟩
abbrev s_Sending_show : Stmt := inClass (top 83) 2
theorem sc_Sending_show : FnScope ["self"] ["self"] (defScope s_Sending_show) := ⟨rfl, rfl, rfl, by decide +kernel, rfl, by decide +kernel, by decide +kernel⟩
abbrev s_Sending_episode : Stmt := inClass (top 83) 3
theorem sc_Sending_episode : FnScope ["self"] ["self"] (defScope s_Sending_episode) := ⟨rfl, rfl, rfl, by decide +kernel, rfl, by decide +kernel, by decide +kernel⟩
abbrev s_episode_of : Stmt := top 21
theorem sc_episode_of : FnScope ["sending"] ["sending"] (defScope s_episode_of) := ⟨rfl, rfl, rfl, by decide +kernel, rfl, by decide +kernel, by decide +kernel⟩
abbrev s_Rule_first : Stmt := inClass (top 69) 2
theorem sc_Rule_first : FnScope ["self"] ["self"] (defScope s_Rule_first) := ⟨rfl, rfl, rfl, by decide +kernel, rfl, by decide +kernel, by decide +kernel⟩
abbrev s_Rule_last : Stmt := inClass (top 69) 3
theorem sc_Rule_last : FnScope ["self"] ["self"] (defScope s_Rule_last) := ⟨rfl, rfl, rfl, by decide +kernel, rfl, by decide +kernel, by decide +kernel⟩
abbrev s_Book_rule_of : Stmt := inClass (top 70) 3
theorem sc_Book_rule_of : FnScope ["self", "show", "episode", "rule"] ["self", "show", "episode"] (defScope s_Book_rule_of) := ⟨rfl, rfl, rfl, by decide +kernel, rfl, by decide +kernel, by decide +kernel⟩
abbrev s_rule_for : Stmt := top 22
theorem sc_rule_for : FnScope ["book", "sending"] ["book", "sending"] (defScope s_rule_for) := ⟨rfl, rfl, rfl, by decide +kernel, rfl, by decide +kernel, by decide +kernel⟩
abbrev s_Listing_names : Stmt := inClass (top 84) 1
theorem sc_Listing_names : FnScope ["self"] ["self"] (defScope s_Listing_names) := ⟨rfl, rfl, rfl, by decide +kernel, rfl, by decide +kernel, by decide +kernel⟩
abbrev s_wished_names : Stmt := top 23
theorem sc_wished_names : FnScope ["book", "listing", "name"] ["book", "listing"] (defScope s_wished_names) := ⟨rfl, rfl, rfl, by decide +kernel, rfl, by decide +kernel, by decide +kernel⟩
abbrev s_Rule_priority : Stmt := inClass (top 69) 4
theorem sc_Rule_priority : FnScope ["self"] ["self"] (defScope s_Rule_priority) := ⟨rfl, rfl, rfl, by decide +kernel, rfl, by decide +kernel, by decide +kernel⟩
abbrev s_Sending_begin : Stmt := inClass (top 83) 4
theorem sc_Sending_begin : FnScope ["self"] ["self"] (defScope s_Sending_begin) := ⟨rfl, rfl, rfl, by decide +kernel, rfl, by decide +kernel, by decide +kernel⟩
abbrev s_wishes : Stmt := top 24
theorem sc_wishes : FnScope ["book", "listing", "rows", "name", "sending", "found", "row"] ["book", "listing"] (defScope s_wishes) := ⟨rfl, rfl, rfl, by decide +kernel, rfl, by decide +kernel, by decide +kernel⟩
abbrev s_sendings_of : Stmt := top 25
theorem sc_sendings_of : FnScope ["book", "listing", "episode", "rows", "name", "row"] ["book", "listing", "episode"] (defScope s_sendings_of) := ⟨rfl, rfl, rfl, by decide +kernel, rfl, by decide +kernel, by decide +kernel⟩
abbrev s_Rule_before : Stmt := inClass (top 69) 5
theorem sc_Rule_before : FnScope ["self"] ["self"] (defScope s_Rule_before) := ⟨rfl, rfl, rfl, by decide +kernel, rfl, by decide +kernel, by decide +kernel⟩
abbrev s_Rule_after : Stmt := inClass (top 69) 6
theorem sc_Rule_after : FnScope ["self"] ["self"] (defScope s_Rule_after) := ⟨rfl, rfl, rfl, by decide +kernel, rfl, by decide +kernel, by decide +kernel⟩
abbrev s_Sending_end : Stmt := inClass (top 83) 5
theorem sc_Sending_end : FnScope ["self"] ["self"] (defScope s_Sending_end) := ⟨rfl, rfl, rfl, by decide +kernel, rfl, by decide +kernel, by decide +kernel⟩
abbrev s_window : Stmt := top 26
theorem sc_window : FnScope ["book", "listing", "name", "sending", "rule"] ["book", "listing", "name"] (defScope s_window) := ⟨rfl, rfl, rfl, by decide +kernel, rfl, by decide +kernel, by decide +kernel⟩
abbrev s_wished_windows : Stmt := top 27
theorem sc_wished_windows : FnScope ["book", "listing", "name"] ["book", "listing"] (defScope s_wished_windows) := ⟨rfl, rfl, rfl, by decide +kernel, rfl, by decide +kernel, by decide +kernel⟩
abbrev s_windows_overlap : Stmt := top 28
theorem sc_windows_overlap : FnScope ["one", "other"] ["one", "other"] (defScope s_windows_overlap) := ⟨rfl, rfl, rfl, by decide +kernel, rfl, by decide +kernel, by decide +kernel⟩
abbrev s_ascending : Stmt := top 30
theorem sc_ascending : FnScope ["plan", "name"] ["plan"] (defScope s_ascending) := ⟨rfl, rfl, rfl, by decide +kernel, rfl, by decide +kernel, by decide +kernel⟩
abbrev s_on_receiver : Stmt := top 31
theorem sc_on_receiver : FnScope ["windows", "plan", "receiver", "span", "recordings", "other"] ["windows", "plan", "receiver", "span"] (defScope s_on_receiver) := ⟨rfl, rfl, rfl, by decide +kernel, rfl, by decide +kernel, by decide +kernel⟩
abbrev s_least_free : Stmt := top 32
theorem sc_least_free : FnScope ["windows", "plan", "span", "receiver"] ["windows", "plan", "span"] (defScope s_least_free) := ⟨rfl, rfl, rfl, by decide +kernel, rfl, by decide +kernel, by decide +kernel⟩
abbrev s_taken_up : Stmt := top 33
theorem sc_taken_up : FnScope ["book", "listing", "receivers", "windows", "plan", "episode", "name", "receiver"] ["book", "listing", "receivers"] (defScope s_taken_up) := ⟨rfl, rfl, rfl, by decide +kernel, rfl, by decide +kernel, by decide +kernel⟩
abbrev s_own_plan : Stmt := top 34
theorem sc_own_plan : FnScope ["book", "listing", "receivers"] ["book", "listing", "receivers"] (defScope s_own_plan) := ⟨rfl, rfl, rfl, by decide +kernel, rfl, by decide +kernel, by decide +kernel⟩
abbrev s_no_episode_twice : Stmt := top 35
theorem sc_no_episode_twice : FnScope ["listing", "names", "name"] ["listing", "names"] (defScope s_no_episode_twice) := ⟨rfl, rfl, rfl, by decide +kernel, rfl, by decide +kernel, by decide +kernel⟩
abbrev s_episodes_of : Stmt := top 36
theorem sc_episodes_of : FnScope ["listing", "plan", "name"] ["listing", "plan"] (defScope s_episodes_of) := ⟨rfl, rfl, rfl, by decide +kernel, rfl, by decide +kernel, by decide +kernel⟩
abbrev s_lost : Stmt := top 37
theorem sc_lost : FnScope ["book", "listing", "receivers", "recorded", "episode"] ["book", "listing", "receivers"] (defScope s_lost) := ⟨rfl, rfl, rfl, by decide +kernel, rfl, by decide +kernel, by decide +kernel⟩
abbrev s_plan_before : Stmt := top 38
theorem sc_plan_before : FnScope ["book", "listing", "receivers", "episode", "wished", "earlier", "plan", "name"] ["book", "listing", "receivers", "episode"] (defScope s_plan_before) := ⟨rfl, rfl, rfl, by decide +kernel, rfl, by decide +kernel, by decide +kernel⟩
abbrev s_in_the_way : Stmt := top 39
theorem sc_in_the_way : FnScope ["book", "listing", "receivers", "episode", "windows", "plan", "found", "name", "receiver"] ["book", "listing", "receivers", "episode"] (defScope s_in_the_way) := ⟨rfl, rfl, rfl, by decide +kernel, rfl, by decide +kernel, by decide +kernel⟩
abbrev s_subsets : Stmt := top 41
theorem sc_subsets : FnScope ["items", "most", "longest", "found", "_", "taken", "item"] ["items", "most"] (defScope s_subsets) := ⟨rfl, rfl, rfl, by decide +kernel, rfl, by decide +kernel, by decide +kernel⟩
abbrev s_begin_then_name : Stmt := top 43
theorem sc_begin_then_name : FnScope ["windows", "names", "row", "name"] ["windows", "names"] (defScope s_begin_then_name) := ⟨rfl, rfl, rfl, by decide +kernel, rfl, by decide +kernel, by decide +kernel⟩
abbrev s_open_at : Stmt := top 44
theorem sc_open_at : FnScope ["windows", "names", "minute", "name"] ["windows", "names", "minute"] (defScope s_open_at) := ⟨rfl, rfl, rfl, by decide +kernel, rfl, by decide +kernel, by decide +kernel⟩
abbrev s_most_at_once : Stmt := top 45
theorem sc_most_at_once : FnScope ["windows", "names", "name"] ["windows", "names"] (defScope s_most_at_once) := ⟨rfl, rfl, rfl, by decide +kernel, rfl, by decide +kernel, by decide +kernel⟩
abbrev s_without_doubles : Stmt := top 46
theorem sc_without_doubles : FnScope ["listing", "names", "chosen"] ["listing", "names"] (defScope s_without_doubles) := ⟨rfl, rfl, rfl, by decide +kernel, rfl, by decide +kernel, by decide +kernel⟩
abbrev s_choices_among : Stmt := top 47
theorem sc_choices_among : FnScope ["listing", "windows", "receivers", "tried", "chosen"] ["listing", "windows", "receivers"] (defScope s_choices_among) := ⟨rfl, rfl, rfl, by decide +kernel, rfl, by decide +kernel, by decide +kernel⟩
abbrev s_all_choices : Stmt := top 48
theorem sc_all_choices : FnScope ["book", "listing", "receivers"] ["book", "listing", "receivers"] (defScope s_all_choices) := ⟨rfl, rfl, rfl, by decide +kernel, rfl, by decide +kernel, by decide +kernel⟩
abbrev s_worth : Stmt := top 49
theorem sc_worth : FnScope ["book", "listing", "names", "name"] ["book", "listing", "names"] (defScope s_worth) := ⟨rfl, rfl, rfl, by decide +kernel, rfl, by decide +kernel, by decide +kernel⟩
abbrev s_best_choice : Stmt := top 50
theorem sc_best_choice : FnScope ["book", "listing", "receivers", "choices", "best", "chosen"] ["book", "listing", "receivers"] (defScope s_best_choice) := ⟨rfl, rfl, rfl, by decide +kernel, rfl, by decide +kernel, by decide +kernel⟩
abbrev s_Listing_init : Stmt := inClass (top 84) 0
theorem sc_Listing_init : FnScope ["self", "sendings", "wrong", "name", "names"] ["self", "sendings"] (defScope s_Listing_init) := ⟨rfl, rfl, rfl, by decide +kernel, rfl, by decide +kernel, by decide +kernel⟩
abbrev s_Listing_only : Stmt := inClass (top 84) 4
theorem sc_Listing_only : FnScope ["self", "names", "name"] ["self", "names"] (defScope s_Listing_only) := ⟨rfl, rfl, rfl, by decide +kernel, rfl, by decide +kernel, by decide +kernel⟩
abbrev s_windows_of : Stmt := top 51
theorem sc_windows_of : FnScope ["book", "listing", "names", "some", "name"] ["book", "listing", "names"] (defScope s_windows_of) := ⟨rfl, rfl, rfl, by decide +kernel, rfl, by decide +kernel, by decide +kernel⟩
abbrev s_fewest_own : Stmt := top 52
theorem sc_fewest_own : FnScope ["book", "listing", "many"] ["book", "listing"] (defScope s_fewest_own) := ⟨rfl, rfl, rfl, by decide +kernel, rfl, by decide +kernel, by decide +kernel⟩
abbrev s_busiest : Stmt := top 53
theorem sc_busiest : FnScope ["book", "listing", "names", "windows", "found", "name", "minute", "crowd"] ["book", "listing", "names"] (defScope s_busiest) := ⟨rfl, rfl, rfl, by decide +kernel, rfl, by decide +kernel, by decide +kernel⟩
abbrev s_recorded_minutes : Stmt := top 57
theorem sc_recorded_minutes : FnScope ["book", "listing", "receivers", "plan", "windows", "name"] ["book", "listing", "receivers"] (defScope s_recorded_minutes) := ⟨rfl, rfl, rfl, by decide +kernel, rfl, by decide +kernel, by decide +kernel⟩
abbrev s_minutes_of : Stmt := top 58
theorem sc_minutes_of : FnScope ["sizes", "names", "name"] ["sizes", "names"] (defScope s_minutes_of) := ⟨rfl, rfl, rfl, by decide +kernel, rfl, by decide +kernel, by decide +kernel⟩
abbrev s_among : Stmt := top 59
theorem sc_among : FnScope ["names", "others", "name"] ["names", "others"] (defScope s_among) := ⟨rfl, rfl, rfl, by decide +kernel, rfl, by decide +kernel, by decide +kernel⟩
abbrev s_on_disk : Stmt := top 60
theorem sc_on_disk : FnScope ["book", "listing", "receivers", "minutes", "protected", "sizes", "kept", "deleted", "refused", "name", "earliest", "other"] ["book", "listing", "receivers", "minutes", "protected"] (defScope s_on_disk) := ⟨rfl, rfl, rfl, by decide +kernel, rfl, by decide +kernel, by decide +kernel⟩
abbrev s_least_disk : Stmt := top 61
theorem sc_least_disk : FnScope ["book", "listing", "receivers", "protected", "sizes", "names", "needed", "at", "name", "least"] ["book", "listing", "receivers", "protected"] (defScope s_least_disk) := ⟨rfl, rfl, rfl, by decide +kernel, rfl, by decide +kernel, by decide +kernel⟩
abbrev s_Book_init : Stmt := inClass (top 70) 0
theorem sc_Book_init : FnScope ["self", "rules", "seen"] ["self", "rules", "seen"] (defScope s_Book_init) := ⟨rfl, rfl, rfl, by decide +kernel, rfl, by decide +kernel, by decide +kernel⟩
abbrev s_Book_with_seen : Stmt := inClass (top 70) 4
theorem sc_Book_with_seen : FnScope ["self", "episodes"] ["self", "episodes"] (defScope s_Book_with_seen) := ⟨rfl, rfl, rfl, by decide +kernel, rfl, by decide +kernel, by decide +kernel⟩
abbrev s_rounds : Stmt := top 62
theorem sc_rounds : FnScope ["book", "listing", "receivers", "found", "plan"] ["book", "listing", "receivers"] (defScope s_rounds) := ⟨rfl, rfl, rfl, by decide +kernel, rfl, by decide +kernel, by decide +kernel⟩
abbrev s_wrong_part_books : Stmt := top 67
theorem sc_wrong_part_books : FnScope ["show", "first", "last", "priority", "before", "after"] ["show", "first", "last", "priority", "before", "after"] (defScope s_wrong_part_books) := ⟨rfl, rfl, rfl, by decide +kernel, rfl, by decide +kernel, by decide +kernel⟩
abbrev s_Rule_init : Stmt := inClass (top 69) 0
theorem sc_Rule_init : FnScope ["self", "show", "first", "last", "priority", "before", "after", "part"] ["self", "show", "first", "last", "priority", "before", "after"] (defScope s_Rule_init) := ⟨rfl, rfl, rfl, by decide +kernel, rfl, by decide +kernel, by decide +kernel⟩
abbrev s_Book_rules : Stmt := inClass (top 70) 1
theorem sc_Book_rules : FnScope ["self"] ["self"] (defScope s_Book_rules) := ⟨rfl, rfl, rfl, by decide +kernel, rfl, by decide +kernel, by decide +kernel⟩
abbrev s_Book_seen : Stmt := inClass (top 70) 2
abbrev s_Sending_late : Stmt := inClass (top 83) 6
theorem sc_Sending_late : FnScope ["self"] ["self"] (defScope s_Sending_late) := ⟨rfl, rfl, rfl, by decide +kernel, rfl, by decide +kernel, by decide +kernel⟩
abbrev s_check_delays : Stmt := top 72
theorem sc_check_delays : FnScope ["listing", "delays", "name"] ["listing", "delays"] (defScope s_check_delays) := ⟨rfl, rfl, rfl, by decide +kernel, rfl, by decide +kernel, by decide +kernel⟩
abbrev s_in_window : Stmt := top 73
theorem sc_in_window : FnScope ["book", "listing", "name", "delay", "begin", "end"] ["book", "listing", "name", "delay"] (defScope s_in_window) := ⟨rfl, rfl, rfl, by decide +kernel, rfl, by decide +kernel, by decide +kernel⟩
abbrev s_whole : Stmt := top 74
theorem sc_whole : FnScope ["book", "listing", "plan", "delays", "name"] ["book", "listing", "plan", "delays"] (defScope s_whole) := ⟨rfl, rfl, rfl, by decide +kernel, rfl, by decide +kernel, by decide +kernel⟩
abbrev s_surely_whole : Stmt := top 75
theorem sc_surely_whole : FnScope ["book", "listing", "plan", "name"] ["book", "listing", "plan"] (defScope s_surely_whole) := ⟨rfl, rfl, rfl, by decide +kernel, rfl, by decide +kernel, by decide +kernel⟩
abbrev s_wrong_part_listings : Stmt := top 81
theorem sc_wrong_part_listings : FnScope ["channel", "show", "episode", "begin", "end", "late"] ["channel", "show", "episode", "begin", "end", "late"] (defScope s_wrong_part_listings) := ⟨rfl, rfl, rfl, by decide +kernel, rfl, by decide +kernel, by decide +kernel⟩
abbrev s_Sending_init : Stmt := inClass (top 83) 0
theorem sc_Sending_init : FnScope ["self", "channel", "show", "episode", "begin", "end", "late", "part"] ["self", "channel", "show", "episode", "begin", "end", "late"] (defScope s_Sending_init) := ⟨rfl, rfl, rfl, by decide +kernel, rfl, by decide +kernel, by decide +kernel⟩
abbrev s_Sending_channel : Stmt := inClass (top 83) 1
abbrev s_Listing_sendings : Stmt := inClass (top 84) 2
abbrev s_difference : Stmt := top 86
theorem sc_difference : FnScope ["book", "other", "listing", "receivers", "names", "some"] ["book", "other", "listing", "receivers"] (defScope s_difference) := ⟨rfl, rfl, rfl, by decide +kernel, rfl, by decide +kernel, by decide +kernel⟩
abbrev s_law_mix : Stmt := top 88
theorem sc_law_mix : FnScope ["_law_script", "_law_seed", "_law_state", "_law_cell"] ["_law_script", "_law_seed"] (defScope s_law_mix) := ⟨rfl, rfl, rfl, by decide +kernel, rfl, by decide +kernel, by decide +kernel⟩
abbrev s_law_next : Stmt := top 89
theorem sc_law_next : FnScope ["_law_h", "_law_limit", "_law_cell"] ["_law_h", "_law_limit"] (defScope s_law_next) := ⟨rfl, rfl, rfl, by decide +kernel, rfl, by decide +kernel, by decide +kernel⟩
abbrev s_law_alike : Stmt := top 90
theorem sc_law_alike : FnScope ["_law_found", "_law_due", "_law_k"] ["_law_found", "_law_due"] (defScope s_law_alike) := ⟨rfl, rfl, rfl, by decide +kernel, rfl, by decide +kernel, by decide +kernel⟩
abbrev s_law_sendings : Stmt := top 91
theorem sc_law_sendings : FnScope ["_law_h", "_law_many", "_law_found", "_law_name", "_law_begin", "_law_title", "_law_late", "_law_end"] ["_law_h", "_law_many"] (defScope s_law_sendings) := ⟨rfl, rfl, rfl, by decide +kernel, rfl, by decide +kernel, by decide +kernel⟩
abbrev s_law_rules : Stmt := top 92
theorem sc_law_rules : FnScope ["_law_h", "_law_many", "_law_found", "_law_k", "_law_first", "_law_padding", "_law_title"] ["_law_h", "_law_many"] (defScope s_law_rules) := ⟨rfl, rfl, rfl, by decide +kernel, rfl, by decide +kernel, by decide +kernel⟩
abbrev s_law_drawn : Stmt := top 93
theorem sc_law_drawn : FnScope ["_law_h", "_law_many", "_law_seen", "_law_k"] ["_law_h", "_law_many"] (defScope s_law_drawn) := ⟨rfl, rfl, rfl, by decide +kernel, rfl, by decide +kernel, by decide +kernel⟩
abbrev s_law_listing : Stmt := top 94
theorem sc_law_listing : FnScope ["_law_sendings_here", "_law_found", "_law_name", "_law_channel", "_law_title", "_law_episode", "_law_begin", "_law_end", "_law_late"] ["_law_sendings_here"] (defScope s_law_listing) := ⟨rfl, rfl, rfl, by decide +kernel, rfl, by decide +kernel, by decide +kernel⟩
abbrev s_law_book : Stmt := top 95
theorem sc_law_book : FnScope ["_law_rules_here", "_law_seen", "_law_some", "_law_title", "_law_first", "_law_last", "_law_rank", "_law_before", "_law_after"] ["_law_rules_here", "_law_seen"] (defScope s_law_book) := ⟨rfl, rfl, rfl, by decide +kernel, rfl, by decide +kernel, by decide +kernel⟩
abbrev s_law_sizes : Stmt := top 96
theorem sc_law_sizes : FnScope ["_law_h", "_law_short", "_law_wide", "_law_receivers", "_law_plan", "_law_factor", "_law_book_here", "_law_one", "_law_other_book", "_law_other", "_law_size", "_law_least", "_law_minute", "_law_names"] ["_law_h", "_law_short", "_law_wide", "_law_receivers", "_law_plan", "_law_factor"] (defScope s_law_sizes) := ⟨rfl, rfl, rfl, by decide +kernel, rfl, by decide +kernel, by decide +kernel⟩
abbrev s_law : Stmt := top 97
theorem sc_law : FnScope ["_law_script", "_law_h", "_law_turn", "_law_drawn_here", "_law_receivers", "_law_factor", "_law_sendings_here", "_law_name", "_law_channel", "_law_title", "_law_episode", "_law_begin", "_law_end", "_law_late", "_law_rules_here", "_law_rule", "_law_one", "_law_other", "_law_book_here", "_law_wide", "_law_plan", "_law_told", "_law_due", "_law_turned", "_law_again"] ["_law_script"] (defScope s_law) := ⟨rfl, rfl, rfl, by decide +kernel, rfl, by decide +kernel, by decide +kernel⟩
abbrev s_InvalidSending_init : Stmt := inClass (top 3) 0
theorem sc_InvalidSending_init : FnScope ["self", "part"] ["self", "part"] (defScope s_InvalidSending_init) := ⟨rfl, rfl, rfl, by decide +kernel, rfl, by decide +kernel, by decide +kernel⟩
abbrev s_InvalidListing_init : Stmt := inClass (top 4) 0
theorem sc_InvalidListing_init : FnScope ["self", "name"] ["self", "name"] (defScope s_InvalidListing_init) := ⟨rfl, rfl, rfl, by decide +kernel, rfl, by decide +kernel, by decide +kernel⟩
abbrev s_InvalidRule_init : Stmt := inClass (top 6) 0
theorem sc_InvalidRule_init : FnScope ["self", "part"] ["self", "part"] (defScope s_InvalidRule_init) := ⟨rfl, rfl, rfl, by decide +kernel, rfl, by decide +kernel, by decide +kernel⟩
abbrev s_InvalidDelay_init : Stmt := inClass (top 11) 0
theorem sc_InvalidDelay_init : FnScope ["self", "name"] ["self", "name"] (defScope s_InvalidDelay_init) := ⟨rfl, rfl, rfl, by decide +kernel, rfl, by decide +kernel, by decide +kernel⟩
structure En (K : PySem.W.Frag) (mg : Str → Option Value) where
  n_len : mg "len" = none
  n_int : mg "int" = none
  n_bool : mg "bool" = none
  n_str : mg "str" = none
  n_list : mg "list" = none
  n_tuple : mg "tuple" = none
  n_dict : mg "dict" = none
  n_range : mg "range" = none
  n_isinstance : mg "isinstance" = none
  n_max : mg "max" = none
  n_min : mg "min" = none
  n_all : mg "all" = none
  n_sorted : mg "sorted" = none
  n_sum : mg "sum" = none
  n_enumerate : mg "enumerate" = none
  u_GREATEST_EPISODE : Value
  c_GREATEST_EPISODE : mg "GREATEST_EPISODE" = some u_GREATEST_EPISODE
  r_GREATEST_EPISODE : RelV (.int 999) u_GREATEST_EPISODE
  u_MOST_RECEIVERS : Value
  c_MOST_RECEIVERS : mg "MOST_RECEIVERS" = some u_MOST_RECEIVERS
  r_MOST_RECEIVERS : RelV (.int 10) u_MOST_RECEIVERS
  u_MOST_MINUTES : Value
  c_MOST_MINUTES : mg "MOST_MINUTES" = some u_MOST_MINUTES
  r_MOST_MINUTES : RelV (.int 1000000) u_MOST_MINUTES
  u_MOST_NEEDED : Value
  c_MOST_NEEDED : mg "MOST_NEEDED" = some u_MOST_NEEDED
  r_MOST_NEEDED : RelV (.int 100000) u_MOST_NEEDED
  u_MOST_RULES : Value
  c_MOST_RULES : mg "MOST_RULES" = some u_MOST_RULES
  r_MOST_RULES : RelV (.int 6) u_MOST_RULES
  u_GREATEST_PRIORITY : Value
  c_GREATEST_PRIORITY : mg "GREATEST_PRIORITY" = some u_GREATEST_PRIORITY
  r_GREATEST_PRIORITY : RelV (.int 9) u_GREATEST_PRIORITY
  u_MOST_PADDING : Value
  c_MOST_PADDING : mg "MOST_PADDING" = some u_MOST_PADDING
  r_MOST_PADDING : RelV (.int 60) u_MOST_PADDING
  u_MOST_SENDINGS : Value
  c_MOST_SENDINGS : mg "MOST_SENDINGS" = some u_MOST_SENDINGS
  r_MOST_SENDINGS : RelV (.int 10) u_MOST_SENDINGS
  u_LATEST_BEGIN : Value
  c_LATEST_BEGIN : mg "LATEST_BEGIN" = some u_LATEST_BEGIN
  r_LATEST_BEGIN : RelV (.int 1000000) u_LATEST_BEGIN
  u_LATEST_END : Value
  c_LATEST_END : mg "LATEST_END" = some u_LATEST_END
  r_LATEST_END : RelV (.int 1000600) u_LATEST_END
  u_MOST_LATE : Value
  c_MOST_LATE : mg "MOST_LATE" = some u_MOST_LATE
  r_MOST_LATE : RelV (.int 60) u_MOST_LATE
  f_is_word : Addr
  g_is_word : mg "is_word" = some (.ref f_is_word)
  d_is_word : FuncData
  F_is_word : Fun K "is_word" "is_word" s_is_word f_is_word d_is_word
  f_is_number : Addr
  g_is_number : mg "is_number" = some (.ref f_is_number)
  d_is_number : FuncData
  F_is_number : Fun K "is_number" "is_number" s_is_number f_is_number d_is_number
  f_is_receivers : Addr
  g_is_receivers : mg "is_receivers" = some (.ref f_is_receivers)
  d_is_receivers : FuncData
  F_is_receivers : Fun K "is_receivers" "is_receivers" s_is_receivers f_is_receivers d_is_receivers
  f_check_receivers : Addr
  g_check_receivers : mg "check_receivers" = some (.ref f_check_receivers)
  d_check_receivers : FuncData
  F_check_receivers : Fun K "check_receivers" "check_receivers" s_check_receivers f_check_receivers d_check_receivers
  f_check_number : Addr
  g_check_number : mg "check_number" = some (.ref f_check_number)
  d_check_number : FuncData
  F_check_number : Fun K "check_number" "check_number" s_check_number f_check_number d_check_number
  f_episode_of : Addr
  g_episode_of : mg "episode_of" = some (.ref f_episode_of)
  d_episode_of : FuncData
  F_episode_of : Fun K "episode_of" "episode_of" s_episode_of f_episode_of d_episode_of
  f_rule_for : Addr
  g_rule_for : mg "rule_for" = some (.ref f_rule_for)
  d_rule_for : FuncData
  F_rule_for : Fun K "rule_for" "rule_for" s_rule_for f_rule_for d_rule_for
  f_wished_names : Addr
  g_wished_names : mg "wished_names" = some (.ref f_wished_names)
  d_wished_names : FuncData
  F_wished_names : Fun K "wished_names" "wished_names" s_wished_names f_wished_names d_wished_names
  f_wishes : Addr
  g_wishes : mg "wishes" = some (.ref f_wishes)
  d_wishes : FuncData
  F_wishes : Fun K "wishes" "wishes" s_wishes f_wishes d_wishes
  f_sendings_of : Addr
  g_sendings_of : mg "sendings_of" = some (.ref f_sendings_of)
  d_sendings_of : FuncData
  F_sendings_of : Fun K "sendings_of" "sendings_of" s_sendings_of f_sendings_of d_sendings_of
  f_window : Addr
  g_window : mg "window" = some (.ref f_window)
  d_window : FuncData
  F_window : Fun K "window" "window" s_window f_window d_window
  f_wished_windows : Addr
  g_wished_windows : mg "wished_windows" = some (.ref f_wished_windows)
  d_wished_windows : FuncData
  F_wished_windows : Fun K "wished_windows" "wished_windows" s_wished_windows f_wished_windows d_wished_windows
  f_windows_overlap : Addr
  g_windows_overlap : mg "windows_overlap" = some (.ref f_windows_overlap)
  d_windows_overlap : FuncData
  F_windows_overlap : Fun K "windows_overlap" "windows_overlap" s_windows_overlap f_windows_overlap d_windows_overlap
  f_ascending : Addr
  g_ascending : mg "ascending" = some (.ref f_ascending)
  d_ascending : FuncData
  F_ascending : Fun K "ascending" "ascending" s_ascending f_ascending d_ascending
  f_on_receiver : Addr
  g_on_receiver : mg "on_receiver" = some (.ref f_on_receiver)
  d_on_receiver : FuncData
  F_on_receiver : Fun K "on_receiver" "on_receiver" s_on_receiver f_on_receiver d_on_receiver
  f_least_free : Addr
  g_least_free : mg "least_free" = some (.ref f_least_free)
  d_least_free : FuncData
  F_least_free : Fun K "least_free" "least_free" s_least_free f_least_free d_least_free
  f_taken_up : Addr
  g_taken_up : mg "taken_up" = some (.ref f_taken_up)
  d_taken_up : FuncData
  F_taken_up : Fun K "taken_up" "taken_up" s_taken_up f_taken_up d_taken_up
  f_own_plan : Addr
  g_own_plan : mg "own_plan" = some (.ref f_own_plan)
  d_own_plan : FuncData
  F_own_plan : Fun K "own_plan" "own_plan" s_own_plan f_own_plan d_own_plan
  f_no_episode_twice : Addr
  g_no_episode_twice : mg "no_episode_twice" = some (.ref f_no_episode_twice)
  d_no_episode_twice : FuncData
  F_no_episode_twice : Fun K "no_episode_twice" "no_episode_twice" s_no_episode_twice f_no_episode_twice d_no_episode_twice
  f_episodes_of : Addr
  g_episodes_of : mg "episodes_of" = some (.ref f_episodes_of)
  d_episodes_of : FuncData
  F_episodes_of : Fun K "episodes_of" "episodes_of" s_episodes_of f_episodes_of d_episodes_of
  f_lost : Addr
  g_lost : mg "lost" = some (.ref f_lost)
  d_lost : FuncData
  F_lost : Fun K "lost" "lost" s_lost f_lost d_lost
  f_plan_before : Addr
  g_plan_before : mg "plan_before" = some (.ref f_plan_before)
  d_plan_before : FuncData
  F_plan_before : Fun K "plan_before" "plan_before" s_plan_before f_plan_before d_plan_before
  f_in_the_way : Addr
  g_in_the_way : mg "in_the_way" = some (.ref f_in_the_way)
  d_in_the_way : FuncData
  F_in_the_way : Fun K "in_the_way" "in_the_way" s_in_the_way f_in_the_way d_in_the_way
  f_subsets : Addr
  g_subsets : mg "subsets" = some (.ref f_subsets)
  d_subsets : FuncData
  F_subsets : Fun K "subsets" "subsets" s_subsets f_subsets d_subsets
  f_begin_then_name : Addr
  g_begin_then_name : mg "begin_then_name" = some (.ref f_begin_then_name)
  d_begin_then_name : FuncData
  F_begin_then_name : Fun K "begin_then_name" "begin_then_name" s_begin_then_name f_begin_then_name d_begin_then_name
  f_open_at : Addr
  g_open_at : mg "open_at" = some (.ref f_open_at)
  d_open_at : FuncData
  F_open_at : Fun K "open_at" "open_at" s_open_at f_open_at d_open_at
  f_most_at_once : Addr
  g_most_at_once : mg "most_at_once" = some (.ref f_most_at_once)
  d_most_at_once : FuncData
  F_most_at_once : Fun K "most_at_once" "most_at_once" s_most_at_once f_most_at_once d_most_at_once
  f_without_doubles : Addr
  g_without_doubles : mg "without_doubles" = some (.ref f_without_doubles)
  d_without_doubles : FuncData
  F_without_doubles : Fun K "without_doubles" "without_doubles" s_without_doubles f_without_doubles d_without_doubles
  f_choices_among : Addr
  g_choices_among : mg "choices_among" = some (.ref f_choices_among)
  d_choices_among : FuncData
  F_choices_among : Fun K "choices_among" "choices_among" s_choices_among f_choices_among d_choices_among
  f_all_choices : Addr
  g_all_choices : mg "all_choices" = some (.ref f_all_choices)
  d_all_choices : FuncData
  F_all_choices : Fun K "all_choices" "all_choices" s_all_choices f_all_choices d_all_choices
  f_worth : Addr
  g_worth : mg "worth" = some (.ref f_worth)
  d_worth : FuncData
  F_worth : Fun K "worth" "worth" s_worth f_worth d_worth
  f_best_choice : Addr
  g_best_choice : mg "best_choice" = some (.ref f_best_choice)
  d_best_choice : FuncData
  F_best_choice : Fun K "best_choice" "best_choice" s_best_choice f_best_choice d_best_choice
  f_windows_of : Addr
  g_windows_of : mg "windows_of" = some (.ref f_windows_of)
  d_windows_of : FuncData
  F_windows_of : Fun K "windows_of" "windows_of" s_windows_of f_windows_of d_windows_of
  f_fewest_own : Addr
  g_fewest_own : mg "fewest_own" = some (.ref f_fewest_own)
  d_fewest_own : FuncData
  F_fewest_own : Fun K "fewest_own" "fewest_own" s_fewest_own f_fewest_own d_fewest_own
  f_busiest : Addr
  g_busiest : mg "busiest" = some (.ref f_busiest)
  d_busiest : FuncData
  F_busiest : Fun K "busiest" "busiest" s_busiest f_busiest d_busiest
  f_recorded_minutes : Addr
  g_recorded_minutes : mg "recorded_minutes" = some (.ref f_recorded_minutes)
  d_recorded_minutes : FuncData
  F_recorded_minutes : Fun K "recorded_minutes" "recorded_minutes" s_recorded_minutes f_recorded_minutes d_recorded_minutes
  f_minutes_of : Addr
  g_minutes_of : mg "minutes_of" = some (.ref f_minutes_of)
  d_minutes_of : FuncData
  F_minutes_of : Fun K "minutes_of" "minutes_of" s_minutes_of f_minutes_of d_minutes_of
  f_among : Addr
  g_among : mg "among" = some (.ref f_among)
  d_among : FuncData
  F_among : Fun K "among" "among" s_among f_among d_among
  f_on_disk : Addr
  g_on_disk : mg "on_disk" = some (.ref f_on_disk)
  d_on_disk : FuncData
  F_on_disk : Fun K "on_disk" "on_disk" s_on_disk f_on_disk d_on_disk
  f_least_disk : Addr
  g_least_disk : mg "least_disk" = some (.ref f_least_disk)
  d_least_disk : FuncData
  F_least_disk : Fun K "least_disk" "least_disk" s_least_disk f_least_disk d_least_disk
  f_rounds : Addr
  g_rounds : mg "rounds" = some (.ref f_rounds)
  d_rounds : FuncData
  F_rounds : Fun K "rounds" "rounds" s_rounds f_rounds d_rounds
  f_wrong_part_books : Addr
  g_wrong_part_books : mg "wrong_part_books" = some (.ref f_wrong_part_books)
  d_wrong_part_books : FuncData
  F_wrong_part_books : Fun K "wrong_part" "wrong_part" s_wrong_part_books f_wrong_part_books d_wrong_part_books
  f_check_delays : Addr
  g_check_delays : mg "check_delays" = some (.ref f_check_delays)
  d_check_delays : FuncData
  F_check_delays : Fun K "check_delays" "check_delays" s_check_delays f_check_delays d_check_delays
  f_in_window : Addr
  g_in_window : mg "in_window" = some (.ref f_in_window)
  d_in_window : FuncData
  F_in_window : Fun K "in_window" "in_window" s_in_window f_in_window d_in_window
  f_whole : Addr
  g_whole : mg "whole" = some (.ref f_whole)
  d_whole : FuncData
  F_whole : Fun K "whole" "whole" s_whole f_whole d_whole
  f_surely_whole : Addr
  g_surely_whole : mg "surely_whole" = some (.ref f_surely_whole)
  d_surely_whole : FuncData
  F_surely_whole : Fun K "surely_whole" "surely_whole" s_surely_whole f_surely_whole d_surely_whole
  f_wrong_part_listings : Addr
  g_wrong_part_listings : mg "wrong_part_listings" = some (.ref f_wrong_part_listings)
  d_wrong_part_listings : FuncData
  F_wrong_part_listings : Fun K "wrong_part" "wrong_part" s_wrong_part_listings f_wrong_part_listings d_wrong_part_listings
  f_difference : Addr
  g_difference : mg "difference" = some (.ref f_difference)
  d_difference : FuncData
  F_difference : Fun K "difference" "difference" s_difference f_difference d_difference
  f_law_mix : Addr
  g_law_mix : mg "_law_mix" = some (.ref f_law_mix)
  d_law_mix : FuncData
  F_law_mix : Fun K "_law_mix" "_law_mix" s_law_mix f_law_mix d_law_mix
  f_law_next : Addr
  g_law_next : mg "_law_next" = some (.ref f_law_next)
  d_law_next : FuncData
  F_law_next : Fun K "_law_next" "_law_next" s_law_next f_law_next d_law_next
  f_law_alike : Addr
  g_law_alike : mg "_law_alike" = some (.ref f_law_alike)
  d_law_alike : FuncData
  F_law_alike : Fun K "_law_alike" "_law_alike" s_law_alike f_law_alike d_law_alike
  f_law_sendings : Addr
  g_law_sendings : mg "_law_sendings" = some (.ref f_law_sendings)
  d_law_sendings : FuncData
  F_law_sendings : Fun K "_law_sendings" "_law_sendings" s_law_sendings f_law_sendings d_law_sendings
  f_law_rules : Addr
  g_law_rules : mg "_law_rules" = some (.ref f_law_rules)
  d_law_rules : FuncData
  F_law_rules : Fun K "_law_rules" "_law_rules" s_law_rules f_law_rules d_law_rules
  f_law_drawn : Addr
  g_law_drawn : mg "_law_drawn" = some (.ref f_law_drawn)
  d_law_drawn : FuncData
  F_law_drawn : Fun K "_law_drawn" "_law_drawn" s_law_drawn f_law_drawn d_law_drawn
  f_law_listing : Addr
  g_law_listing : mg "_law_listing" = some (.ref f_law_listing)
  d_law_listing : FuncData
  F_law_listing : Fun K "_law_listing" "_law_listing" s_law_listing f_law_listing d_law_listing
  f_law_book : Addr
  g_law_book : mg "_law_book" = some (.ref f_law_book)
  d_law_book : FuncData
  F_law_book : Fun K "_law_book" "_law_book" s_law_book f_law_book d_law_book
  f_law_sizes : Addr
  g_law_sizes : mg "_law_sizes" = some (.ref f_law_sizes)
  d_law_sizes : FuncData
  F_law_sizes : Fun K "_law_sizes" "_law_sizes" s_law_sizes f_law_sizes d_law_sizes
  f_law : Addr
  g_law : mg "law" = some (.ref f_law)
  d_law : FuncData
  F_law : Fun K "law" "law" s_law f_law d_law
  C_Rule : Addr
  g_Rule : mg "Rule" = some (.ref C_Rule)
  cl_Rule : Cls K C_Rule
  in_Rule : InsC K C_Rule
  f_Rule_init : Addr
  mk_Rule : Mk K C_Rule f_Rule_init
  d_Rule_init : FuncData
  F_Rule_init : FunD K "__init__" "Rule.__init__" (defArgs s_Rule_init) (defBody s_Rule_init) (defScope s_Rule_init) [.int 0, .int 0] [] f_Rule_init d_Rule_init
  f_Rule_show : Addr
  q_Rule_show : Addr
  p_Rule_show : PropOf K C_Rule "show" q_Rule_show f_Rule_show
  d_Rule_show : FuncData
  F_Rule_show : Fun K "show" "Rule.show" s_Rule_show f_Rule_show d_Rule_show
  f_Rule_first : Addr
  q_Rule_first : Addr
  p_Rule_first : PropOf K C_Rule "first" q_Rule_first f_Rule_first
  d_Rule_first : FuncData
  F_Rule_first : Fun K "first" "Rule.first" s_Rule_first f_Rule_first d_Rule_first
  f_Rule_last : Addr
  q_Rule_last : Addr
  p_Rule_last : PropOf K C_Rule "last" q_Rule_last f_Rule_last
  d_Rule_last : FuncData
  F_Rule_last : Fun K "last" "Rule.last" s_Rule_last f_Rule_last d_Rule_last
  f_Rule_priority : Addr
  q_Rule_priority : Addr
  p_Rule_priority : PropOf K C_Rule "priority" q_Rule_priority f_Rule_priority
  d_Rule_priority : FuncData
  F_Rule_priority : Fun K "priority" "Rule.priority" s_Rule_priority f_Rule_priority d_Rule_priority
  f_Rule_before : Addr
  q_Rule_before : Addr
  p_Rule_before : PropOf K C_Rule "before" q_Rule_before f_Rule_before
  d_Rule_before : FuncData
  F_Rule_before : Fun K "before" "Rule.before" s_Rule_before f_Rule_before d_Rule_before
  f_Rule_after : Addr
  q_Rule_after : Addr
  p_Rule_after : PropOf K C_Rule "after" q_Rule_after f_Rule_after
  d_Rule_after : FuncData
  F_Rule_after : Fun K "after" "Rule.after" s_Rule_after f_Rule_after d_Rule_after
  f_Rule_eq : Addr
  e_Rule_eq : PySem.W.findIn K (.ref C_Rule) "__eq__" = some (some (.ref f_Rule_eq))
  fn_Rule_eq : PySem.W.isFn K (.ref f_Rule_eq) = true
  ne_Rule : NeC K C_Rule f_Rule_eq
  d_Rule_eq : FuncData
  F_Rule_eq : Fun K "__eq__" "Rule.__eq__" s_Rule_eq f_Rule_eq d_Rule_eq
  na_Rule_show : NoAttr K C_Rule "_show"
  na_Rule_first : NoAttr K C_Rule "_first"
  na_Rule_last : NoAttr K C_Rule "_last"
  na_Rule_priority : NoAttr K C_Rule "_priority"
  na_Rule_before : NoAttr K C_Rule "_before"
  na_Rule_after : NoAttr K C_Rule "_after"
  C_Book : Addr
  g_Book : mg "Book" = some (.ref C_Book)
  cl_Book : Cls K C_Book
  in_Book : InsC K C_Book
  f_Book_init : Addr
  mk_Book : Mk K C_Book f_Book_init
  d_Book_init : FuncData
  a_Book_init : Addr
  F_Book_init : FunD K "__init__" "Book.__init__" (defArgs s_Book_init) (defBody s_Book_init) (defScope s_Book_init) [.ref a_Book_init] [] f_Book_init d_Book_init
  kt_Book_init : ∃ (o : Obj) (n : Nat), K.lookup a_Book_init = some o ∧ o.cls = .type "tuple" ∧ o.data = .seq #[] n
  f_Book_rules : Addr
  q_Book_rules : Addr
  p_Book_rules : PropOf K C_Book "rules" q_Book_rules f_Book_rules
  d_Book_rules : FuncData
  F_Book_rules : Fun K "rules" "Book.rules" s_Book_rules f_Book_rules d_Book_rules
  f_Book_seen : Addr
  q_Book_seen : Addr
  p_Book_seen : PropOf K C_Book "seen" q_Book_seen f_Book_seen
  d_Book_seen : FuncData
  F_Book_seen : Fun K "seen" "Book.seen" s_Book_seen f_Book_seen d_Book_seen
  f_Book_rule_of : Addr
  m_Book_rule_of : Meth K C_Book "rule_of" f_Book_rule_of
  d_Book_rule_of : FuncData
  F_Book_rule_of : Fun K "rule_of" "Book.rule_of" s_Book_rule_of f_Book_rule_of d_Book_rule_of
  f_Book_with_seen : Addr
  m_Book_with_seen : Meth K C_Book "with_seen" f_Book_with_seen
  d_Book_with_seen : FuncData
  F_Book_with_seen : Fun K "with_seen" "Book.with_seen" s_Book_with_seen f_Book_with_seen d_Book_with_seen
  f_Book_eq : Addr
  e_Book_eq : PySem.W.findIn K (.ref C_Book) "__eq__" = some (some (.ref f_Book_eq))
  fn_Book_eq : PySem.W.isFn K (.ref f_Book_eq) = true
  ne_Book : NeC K C_Book f_Book_eq
  d_Book_eq : FuncData
  F_Book_eq : Fun K "__eq__" "Book.__eq__" s_Book_eq f_Book_eq d_Book_eq
  na_Book_rules : NoAttr K C_Book "_rules"
  na_Book_seen : NoAttr K C_Book "_seen"
  C_Sending : Addr
  g_Sending : mg "Sending" = some (.ref C_Sending)
  cl_Sending : Cls K C_Sending
  in_Sending : InsC K C_Sending
  f_Sending_init : Addr
  mk_Sending : Mk K C_Sending f_Sending_init
  d_Sending_init : FuncData
  F_Sending_init : FunD K "__init__" "Sending.__init__" (defArgs s_Sending_init) (defBody s_Sending_init) (defScope s_Sending_init) [.int 0] [] f_Sending_init d_Sending_init
  f_Sending_channel : Addr
  q_Sending_channel : Addr
  p_Sending_channel : PropOf K C_Sending "channel" q_Sending_channel f_Sending_channel
  d_Sending_channel : FuncData
  F_Sending_channel : Fun K "channel" "Sending.channel" s_Sending_channel f_Sending_channel d_Sending_channel
  f_Sending_show : Addr
  q_Sending_show : Addr
  p_Sending_show : PropOf K C_Sending "show" q_Sending_show f_Sending_show
  d_Sending_show : FuncData
  F_Sending_show : Fun K "show" "Sending.show" s_Sending_show f_Sending_show d_Sending_show
  f_Sending_episode : Addr
  q_Sending_episode : Addr
  p_Sending_episode : PropOf K C_Sending "episode" q_Sending_episode f_Sending_episode
  d_Sending_episode : FuncData
  F_Sending_episode : Fun K "episode" "Sending.episode" s_Sending_episode f_Sending_episode d_Sending_episode
  f_Sending_begin : Addr
  q_Sending_begin : Addr
  p_Sending_begin : PropOf K C_Sending "begin" q_Sending_begin f_Sending_begin
  d_Sending_begin : FuncData
  F_Sending_begin : Fun K "begin" "Sending.begin" s_Sending_begin f_Sending_begin d_Sending_begin
  f_Sending_end : Addr
  q_Sending_end : Addr
  p_Sending_end : PropOf K C_Sending "end" q_Sending_end f_Sending_end
  d_Sending_end : FuncData
  F_Sending_end : Fun K "end" "Sending.end" s_Sending_end f_Sending_end d_Sending_end
  f_Sending_late : Addr
  q_Sending_late : Addr
  p_Sending_late : PropOf K C_Sending "late" q_Sending_late f_Sending_late
  d_Sending_late : FuncData
  F_Sending_late : Fun K "late" "Sending.late" s_Sending_late f_Sending_late d_Sending_late
  f_Sending_eq : Addr
  e_Sending_eq : PySem.W.findIn K (.ref C_Sending) "__eq__" = some (some (.ref f_Sending_eq))
  fn_Sending_eq : PySem.W.isFn K (.ref f_Sending_eq) = true
  ne_Sending : NeC K C_Sending f_Sending_eq
  d_Sending_eq : FuncData
  F_Sending_eq : Fun K "__eq__" "Sending.__eq__" s_Sending_eq f_Sending_eq d_Sending_eq
  na_Sending_channel : NoAttr K C_Sending "_channel"
  na_Sending_show : NoAttr K C_Sending "_show"
  na_Sending_episode : NoAttr K C_Sending "_episode"
  na_Sending_begin : NoAttr K C_Sending "_begin"
  na_Sending_end : NoAttr K C_Sending "_end"
  na_Sending_late : NoAttr K C_Sending "_late"
  C_Listing : Addr
  g_Listing : mg "Listing" = some (.ref C_Listing)
  cl_Listing : Cls K C_Listing
  in_Listing : InsC K C_Listing
  f_Listing_init : Addr
  mk_Listing : Mk K C_Listing f_Listing_init
  d_Listing_init : FuncData
  F_Listing_init : Fun K "__init__" "Listing.__init__" s_Listing_init f_Listing_init d_Listing_init
  f_Listing_names : Addr
  q_Listing_names : Addr
  p_Listing_names : PropOf K C_Listing "names" q_Listing_names f_Listing_names
  d_Listing_names : FuncData
  F_Listing_names : Fun K "names" "Listing.names" s_Listing_names f_Listing_names d_Listing_names
  f_Listing_sendings : Addr
  q_Listing_sendings : Addr
  p_Listing_sendings : PropOf K C_Listing "sendings" q_Listing_sendings f_Listing_sendings
  d_Listing_sendings : FuncData
  F_Listing_sendings : Fun K "sendings" "Listing.sendings" s_Listing_sendings f_Listing_sendings d_Listing_sendings
  f_Listing_only : Addr
  m_Listing_only : Meth K C_Listing "only" f_Listing_only
  d_Listing_only : FuncData
  F_Listing_only : Fun K "only" "Listing.only" s_Listing_only f_Listing_only d_Listing_only
  f_Listing_getitem : Addr
  sg_Listing_getitem : PySem.W.findIn K (.ref C_Listing) "__getitem__" = some (some (.ref f_Listing_getitem))
  fi_Listing_getitem : PySem.W.fnIn K f_Listing_getitem = true
  fn_Listing_getitem : PySem.W.isFn K (.ref f_Listing_getitem) = true
  d_Listing_getitem : FuncData
  F_Listing_getitem : Fun K "__getitem__" "Listing.__getitem__" s_Listing_getitem f_Listing_getitem d_Listing_getitem
  f_Listing_contains : Addr
  sg_Listing_contains : PySem.W.findIn K (.ref C_Listing) "__contains__" = some (some (.ref f_Listing_contains))
  fi_Listing_contains : PySem.W.fnIn K f_Listing_contains = true
  fn_Listing_contains : PySem.W.isFn K (.ref f_Listing_contains) = true
  d_Listing_contains : FuncData
  F_Listing_contains : Fun K "__contains__" "Listing.__contains__" s_Listing_contains f_Listing_contains d_Listing_contains
  f_Listing_len : Addr
  sg_Listing_len : PySem.W.findIn K (.ref C_Listing) "__len__" = some (some (.ref f_Listing_len))
  fi_Listing_len : PySem.W.fnIn K f_Listing_len = true
  fn_Listing_len : PySem.W.isFn K (.ref f_Listing_len) = true
  d_Listing_len : FuncData
  F_Listing_len : Fun K "__len__" "Listing.__len__" s_Listing_len f_Listing_len d_Listing_len
  f_Listing_eq : Addr
  e_Listing_eq : PySem.W.findIn K (.ref C_Listing) "__eq__" = some (some (.ref f_Listing_eq))
  fn_Listing_eq : PySem.W.isFn K (.ref f_Listing_eq) = true
  ne_Listing : NeC K C_Listing f_Listing_eq
  d_Listing_eq : FuncData
  F_Listing_eq : Fun K "__eq__" "Listing.__eq__" s_Listing_eq f_Listing_eq d_Listing_eq
  na_Listing_sendings : NoAttr K C_Listing "_sendings"
  ki_Rule_Rule : PySem.W.kitOne K (.ref C_Rule) (.ref C_Rule) = some true
  ki_Book_Rule : PySem.W.kitOne K (.ref C_Book) (.ref C_Rule) = some false
  ki_Sending_Rule : PySem.W.kitOne K (.ref C_Sending) (.ref C_Rule) = some false
  ki_Listing_Rule : PySem.W.kitOne K (.ref C_Listing) (.ref C_Rule) = some false
  kb_NoneType_Rule : PySem.W.kitOne K (.type "NoneType") (.ref C_Rule) = some false
  kb_bool_Rule : PySem.W.kitOne K (.type "bool") (.ref C_Rule) = some false
  kb_int_Rule : PySem.W.kitOne K (.type "int") (.ref C_Rule) = some false
  kb_str_Rule : PySem.W.kitOne K (.type "str") (.ref C_Rule) = some false
  kb_list_Rule : PySem.W.kitOne K (.type "list") (.ref C_Rule) = some false
  kb_tuple_Rule : PySem.W.kitOne K (.type "tuple") (.ref C_Rule) = some false
  kb_dict_Rule : PySem.W.kitOne K (.type "dict") (.ref C_Rule) = some false
  ko_Rule_bool : PySem.W.kitOne K (.ref C_Rule) (.type "bool") = some false
  ko_Rule_int : PySem.W.kitOne K (.ref C_Rule) (.type "int") = some false
  ko_Rule_str : PySem.W.kitOne K (.ref C_Rule) (.type "str") = some false
  ko_Rule_list : PySem.W.kitOne K (.ref C_Rule) (.type "list") = some false
  ko_Rule_tuple : PySem.W.kitOne K (.ref C_Rule) (.type "tuple") = some false
  ko_Rule_dict : PySem.W.kitOne K (.ref C_Rule) (.type "dict") = some false
  ki_Rule_Book : PySem.W.kitOne K (.ref C_Rule) (.ref C_Book) = some false
  ki_Book_Book : PySem.W.kitOne K (.ref C_Book) (.ref C_Book) = some true
  ki_Sending_Book : PySem.W.kitOne K (.ref C_Sending) (.ref C_Book) = some false
  ki_Listing_Book : PySem.W.kitOne K (.ref C_Listing) (.ref C_Book) = some false
  kb_NoneType_Book : PySem.W.kitOne K (.type "NoneType") (.ref C_Book) = some false
  kb_bool_Book : PySem.W.kitOne K (.type "bool") (.ref C_Book) = some false
  kb_int_Book : PySem.W.kitOne K (.type "int") (.ref C_Book) = some false
  kb_str_Book : PySem.W.kitOne K (.type "str") (.ref C_Book) = some false
  kb_list_Book : PySem.W.kitOne K (.type "list") (.ref C_Book) = some false
  kb_tuple_Book : PySem.W.kitOne K (.type "tuple") (.ref C_Book) = some false
  kb_dict_Book : PySem.W.kitOne K (.type "dict") (.ref C_Book) = some false
  ko_Book_bool : PySem.W.kitOne K (.ref C_Book) (.type "bool") = some false
  ko_Book_int : PySem.W.kitOne K (.ref C_Book) (.type "int") = some false
  ko_Book_str : PySem.W.kitOne K (.ref C_Book) (.type "str") = some false
  ko_Book_list : PySem.W.kitOne K (.ref C_Book) (.type "list") = some false
  ko_Book_tuple : PySem.W.kitOne K (.ref C_Book) (.type "tuple") = some false
  ko_Book_dict : PySem.W.kitOne K (.ref C_Book) (.type "dict") = some false
  ki_Rule_Sending : PySem.W.kitOne K (.ref C_Rule) (.ref C_Sending) = some false
  ki_Book_Sending : PySem.W.kitOne K (.ref C_Book) (.ref C_Sending) = some false
  ki_Sending_Sending : PySem.W.kitOne K (.ref C_Sending) (.ref C_Sending) = some true
  ki_Listing_Sending : PySem.W.kitOne K (.ref C_Listing) (.ref C_Sending) = some false
  kb_NoneType_Sending : PySem.W.kitOne K (.type "NoneType") (.ref C_Sending) = some false
  kb_bool_Sending : PySem.W.kitOne K (.type "bool") (.ref C_Sending) = some false
  kb_int_Sending : PySem.W.kitOne K (.type "int") (.ref C_Sending) = some false
  kb_str_Sending : PySem.W.kitOne K (.type "str") (.ref C_Sending) = some false
  kb_list_Sending : PySem.W.kitOne K (.type "list") (.ref C_Sending) = some false
  kb_tuple_Sending : PySem.W.kitOne K (.type "tuple") (.ref C_Sending) = some false
  kb_dict_Sending : PySem.W.kitOne K (.type "dict") (.ref C_Sending) = some false
  ko_Sending_bool : PySem.W.kitOne K (.ref C_Sending) (.type "bool") = some false
  ko_Sending_int : PySem.W.kitOne K (.ref C_Sending) (.type "int") = some false
  ko_Sending_str : PySem.W.kitOne K (.ref C_Sending) (.type "str") = some false
  ko_Sending_list : PySem.W.kitOne K (.ref C_Sending) (.type "list") = some false
  ko_Sending_tuple : PySem.W.kitOne K (.ref C_Sending) (.type "tuple") = some false
  ko_Sending_dict : PySem.W.kitOne K (.ref C_Sending) (.type "dict") = some false
  ki_Rule_Listing : PySem.W.kitOne K (.ref C_Rule) (.ref C_Listing) = some false
  ki_Book_Listing : PySem.W.kitOne K (.ref C_Book) (.ref C_Listing) = some false
  ki_Sending_Listing : PySem.W.kitOne K (.ref C_Sending) (.ref C_Listing) = some false
  ki_Listing_Listing : PySem.W.kitOne K (.ref C_Listing) (.ref C_Listing) = some true
  kb_NoneType_Listing : PySem.W.kitOne K (.type "NoneType") (.ref C_Listing) = some false
  kb_bool_Listing : PySem.W.kitOne K (.type "bool") (.ref C_Listing) = some false
  kb_int_Listing : PySem.W.kitOne K (.type "int") (.ref C_Listing) = some false
  kb_str_Listing : PySem.W.kitOne K (.type "str") (.ref C_Listing) = some false
  kb_list_Listing : PySem.W.kitOne K (.type "list") (.ref C_Listing) = some false
  kb_tuple_Listing : PySem.W.kitOne K (.type "tuple") (.ref C_Listing) = some false
  kb_dict_Listing : PySem.W.kitOne K (.type "dict") (.ref C_Listing) = some false
  ko_Listing_bool : PySem.W.kitOne K (.ref C_Listing) (.type "bool") = some false
  ko_Listing_int : PySem.W.kitOne K (.ref C_Listing) (.type "int") = some false
  ko_Listing_str : PySem.W.kitOne K (.ref C_Listing) (.type "str") = some false
  ko_Listing_list : PySem.W.kitOne K (.ref C_Listing) (.type "list") = some false
  ko_Listing_tuple : PySem.W.kitOne K (.ref C_Listing) (.type "tuple") = some false
  ko_Listing_dict : PySem.W.kitOne K (.ref C_Listing) (.type "dict") = some false
  C_RecorderError : Addr
  g_RecorderError : mg "RecorderError" = some (.ref C_RecorderError)
  kc_RecorderError : PySem.W.keepIn K (.ref C_RecorderError) = true
  r_RecorderError : PySem.W.subIn K (.ref C_RecorderError) (.type "BaseException") = some true
  ty_RecorderError : PySem.W.typeIn K (.ref C_RecorderError) = some (.type "type")
  C_InvalidSending : Addr
  g_InvalidSending : mg "InvalidSending" = some (.ref C_InvalidSending)
  kc_InvalidSending : PySem.W.keepIn K (.ref C_InvalidSending) = true
  r_InvalidSending : PySem.W.subIn K (.ref C_InvalidSending) (.type "BaseException") = some true
  ty_InvalidSending : PySem.W.typeIn K (.ref C_InvalidSending) = some (.type "type")
  f_InvalidSending_init : Addr
  T_InvalidSending : OexC K C_InvalidSending
  i_InvalidSending : PySem.W.findIn K (.ref C_InvalidSending) "__init__" = some (some (.ref f_InvalidSending_init))
  t_InvalidSending : PySem.W.typeIn K (.ref f_InvalidSending_init) = some (.type "function")
  X_InvalidSending : XfC K C_InvalidSending
  nf_InvalidSending : PySem.W.findIn K (.ref C_InvalidSending) "part" = some none
  d_InvalidSending_init : FuncData
  F_InvalidSending_init : Fun K "__init__" "InvalidSending.__init__" s_InvalidSending_init f_InvalidSending_init d_InvalidSending_init
  C_InvalidListing : Addr
  g_InvalidListing : mg "InvalidListing" = some (.ref C_InvalidListing)
  kc_InvalidListing : PySem.W.keepIn K (.ref C_InvalidListing) = true
  r_InvalidListing : PySem.W.subIn K (.ref C_InvalidListing) (.type "BaseException") = some true
  ty_InvalidListing : PySem.W.typeIn K (.ref C_InvalidListing) = some (.type "type")
  f_InvalidListing_init : Addr
  T_InvalidListing : OexC K C_InvalidListing
  i_InvalidListing : PySem.W.findIn K (.ref C_InvalidListing) "__init__" = some (some (.ref f_InvalidListing_init))
  t_InvalidListing : PySem.W.typeIn K (.ref f_InvalidListing_init) = some (.type "function")
  X_InvalidListing : XfC K C_InvalidListing
  nf_InvalidListing : PySem.W.findIn K (.ref C_InvalidListing) "name" = some none
  d_InvalidListing_init : FuncData
  F_InvalidListing_init : Fun K "__init__" "InvalidListing.__init__" s_InvalidListing_init f_InvalidListing_init d_InvalidListing_init
  C_UnknownName : Addr
  g_UnknownName : mg "UnknownName" = some (.ref C_UnknownName)
  kc_UnknownName : PySem.W.keepIn K (.ref C_UnknownName) = true
  r_UnknownName : PySem.W.subIn K (.ref C_UnknownName) (.type "BaseException") = some true
  ty_UnknownName : PySem.W.typeIn K (.ref C_UnknownName) = some (.type "type")
  x_UnknownName : ValX K C_UnknownName
  C_InvalidRule : Addr
  g_InvalidRule : mg "InvalidRule" = some (.ref C_InvalidRule)
  kc_InvalidRule : PySem.W.keepIn K (.ref C_InvalidRule) = true
  r_InvalidRule : PySem.W.subIn K (.ref C_InvalidRule) (.type "BaseException") = some true
  ty_InvalidRule : PySem.W.typeIn K (.ref C_InvalidRule) = some (.type "type")
  f_InvalidRule_init : Addr
  T_InvalidRule : OexC K C_InvalidRule
  i_InvalidRule : PySem.W.findIn K (.ref C_InvalidRule) "__init__" = some (some (.ref f_InvalidRule_init))
  t_InvalidRule : PySem.W.typeIn K (.ref f_InvalidRule_init) = some (.type "function")
  X_InvalidRule : XfC K C_InvalidRule
  nf_InvalidRule : PySem.W.findIn K (.ref C_InvalidRule) "part" = some none
  d_InvalidRule_init : FuncData
  F_InvalidRule_init : Fun K "__init__" "InvalidRule.__init__" s_InvalidRule_init f_InvalidRule_init d_InvalidRule_init
  C_InvalidBook : Addr
  g_InvalidBook : mg "InvalidBook" = some (.ref C_InvalidBook)
  kc_InvalidBook : PySem.W.keepIn K (.ref C_InvalidBook) = true
  r_InvalidBook : PySem.W.subIn K (.ref C_InvalidBook) (.type "BaseException") = some true
  ty_InvalidBook : PySem.W.typeIn K (.ref C_InvalidBook) = some (.type "type")
  x_InvalidBook : ValX K C_InvalidBook
  C_UnknownEpisode : Addr
  g_UnknownEpisode : mg "UnknownEpisode" = some (.ref C_UnknownEpisode)
  kc_UnknownEpisode : PySem.W.keepIn K (.ref C_UnknownEpisode) = true
  r_UnknownEpisode : PySem.W.subIn K (.ref C_UnknownEpisode) (.type "BaseException") = some true
  ty_UnknownEpisode : PySem.W.typeIn K (.ref C_UnknownEpisode) = some (.type "type")
  x_UnknownEpisode : ValX K C_UnknownEpisode
  C_NotWished : Addr
  g_NotWished : mg "NotWished" = some (.ref C_NotWished)
  kc_NotWished : PySem.W.keepIn K (.ref C_NotWished) = true
  r_NotWished : PySem.W.subIn K (.ref C_NotWished) (.type "BaseException") = some true
  ty_NotWished : PySem.W.typeIn K (.ref C_NotWished) = some (.type "type")
  x_NotWished : ValX K C_NotWished
  C_InvalidNumber : Addr
  g_InvalidNumber : mg "InvalidNumber" = some (.ref C_InvalidNumber)
  kc_InvalidNumber : PySem.W.keepIn K (.ref C_InvalidNumber) = true
  r_InvalidNumber : PySem.W.subIn K (.ref C_InvalidNumber) (.type "BaseException") = some true
  ty_InvalidNumber : PySem.W.typeIn K (.ref C_InvalidNumber) = some (.type "type")
  x_InvalidNumber : ValX K C_InvalidNumber
  C_InvalidDelay : Addr
  g_InvalidDelay : mg "InvalidDelay" = some (.ref C_InvalidDelay)
  kc_InvalidDelay : PySem.W.keepIn K (.ref C_InvalidDelay) = true
  r_InvalidDelay : PySem.W.subIn K (.ref C_InvalidDelay) (.type "BaseException") = some true
  ty_InvalidDelay : PySem.W.typeIn K (.ref C_InvalidDelay) = some (.type "type")
  f_InvalidDelay_init : Addr
  T_InvalidDelay : OexC K C_InvalidDelay
  i_InvalidDelay : PySem.W.findIn K (.ref C_InvalidDelay) "__init__" = some (some (.ref f_InvalidDelay_init))
  t_InvalidDelay : PySem.W.typeIn K (.ref f_InvalidDelay_init) = some (.type "function")
  X_InvalidDelay : XfC K C_InvalidDelay
  nf_InvalidDelay : PySem.W.findIn K (.ref C_InvalidDelay) "name" = some none
  d_InvalidDelay_init : FuncData
  F_InvalidDelay_init : Fun K "__init__" "InvalidDelay.__init__" s_InvalidDelay_init f_InvalidDelay_init d_InvalidDelay_init
section
variable {K : PySem.W.Frag} {mg : Str → Option Value}
theorem En.b_is_word (S : En K mg) : Binds K S.d_is_word ["value"] [] := S.F_is_word.binds fun _ _ _ _ _ _ us hl => match us, hl with | [_], _ => rfl
theorem En.b_is_number (S : En K mg) : Binds K S.d_is_number ["value", "least", "greatest"] [] := S.F_is_number.binds fun _ _ _ _ _ _ us hl => match us, hl with | [_, _, _], _ => rfl
theorem En.b_is_receivers (S : En K mg) : Binds K S.d_is_receivers ["value"] [] := S.F_is_receivers.binds fun _ _ _ _ _ _ us hl => match us, hl with | [_], _ => rfl
theorem En.b_check_receivers (S : En K mg) : Binds K S.d_check_receivers ["value"] [] := S.F_check_receivers.binds fun _ _ _ _ _ _ us hl => match us, hl with | [_], _ => rfl
theorem En.b_check_number (S : En K mg) : Binds K S.d_check_number ["value", "least", "greatest"] [] := S.F_check_number.binds fun _ _ _ _ _ _ us hl => match us, hl with | [_, _, _], _ => rfl
theorem En.b_episode_of (S : En K mg) : Binds K S.d_episode_of ["sending"] [] := S.F_episode_of.binds fun _ _ _ _ _ _ us hl => match us, hl with | [_], _ => rfl
theorem En.b_rule_for (S : En K mg) : Binds K S.d_rule_for ["book", "sending"] [] := S.F_rule_for.binds fun _ _ _ _ _ _ us hl => match us, hl with | [_, _], _ => rfl
theorem En.b_wished_names (S : En K mg) : Binds K S.d_wished_names ["book", "listing"] [] := S.F_wished_names.binds fun _ _ _ _ _ _ us hl => match us, hl with | [_, _], _ => rfl
theorem En.b_wishes (S : En K mg) : Binds K S.d_wishes ["book", "listing"] [] := S.F_wishes.binds fun _ _ _ _ _ _ us hl => match us, hl with | [_, _], _ => rfl
theorem En.b_sendings_of (S : En K mg) : Binds K S.d_sendings_of ["book", "listing", "episode"] [] := S.F_sendings_of.binds fun _ _ _ _ _ _ us hl => match us, hl with | [_, _, _], _ => rfl
theorem En.b_window (S : En K mg) : Binds K S.d_window ["book", "listing", "name"] [] := S.F_window.binds fun _ _ _ _ _ _ us hl => match us, hl with | [_, _, _], _ => rfl
theorem En.b_wished_windows (S : En K mg) : Binds K S.d_wished_windows ["book", "listing"] [] := S.F_wished_windows.binds fun _ _ _ _ _ _ us hl => match us, hl with | [_, _], _ => rfl
theorem En.b_windows_overlap (S : En K mg) : Binds K S.d_windows_overlap ["one", "other"] [] := S.F_windows_overlap.binds fun _ _ _ _ _ _ us hl => match us, hl with | [_, _], _ => rfl
theorem En.b_ascending (S : En K mg) : Binds K S.d_ascending ["plan"] [] := S.F_ascending.binds fun _ _ _ _ _ _ us hl => match us, hl with | [_], _ => rfl
theorem En.b_on_receiver (S : En K mg) : Binds K S.d_on_receiver ["windows", "plan", "receiver", "span"] [] := S.F_on_receiver.binds fun _ _ _ _ _ _ us hl => match us, hl with | [_, _, _, _], _ => rfl
theorem En.b_least_free (S : En K mg) : Binds K S.d_least_free ["windows", "plan", "span"] [] := S.F_least_free.binds fun _ _ _ _ _ _ us hl => match us, hl with | [_, _, _], _ => rfl
theorem En.b_taken_up (S : En K mg) : Binds K S.d_taken_up ["book", "listing", "receivers"] [] := S.F_taken_up.binds fun _ _ _ _ _ _ us hl => match us, hl with | [_, _, _], _ => rfl
theorem En.b_own_plan (S : En K mg) : Binds K S.d_own_plan ["book", "listing", "receivers"] [] := S.F_own_plan.binds fun _ _ _ _ _ _ us hl => match us, hl with | [_, _, _], _ => rfl
theorem En.b_no_episode_twice (S : En K mg) : Binds K S.d_no_episode_twice ["listing", "names"] [] := S.F_no_episode_twice.binds fun _ _ _ _ _ _ us hl => match us, hl with | [_, _], _ => rfl
theorem En.b_episodes_of (S : En K mg) : Binds K S.d_episodes_of ["listing", "plan"] [] := S.F_episodes_of.binds fun _ _ _ _ _ _ us hl => match us, hl with | [_, _], _ => rfl
theorem En.b_lost (S : En K mg) : Binds K S.d_lost ["book", "listing", "receivers"] [] := S.F_lost.binds fun _ _ _ _ _ _ us hl => match us, hl with | [_, _, _], _ => rfl
theorem En.b_plan_before (S : En K mg) : Binds K S.d_plan_before ["book", "listing", "receivers", "episode"] [] := S.F_plan_before.binds fun _ _ _ _ _ _ us hl => match us, hl with | [_, _, _, _], _ => rfl
theorem En.b_in_the_way (S : En K mg) : Binds K S.d_in_the_way ["book", "listing", "receivers", "episode"] [] := S.F_in_the_way.binds fun _ _ _ _ _ _ us hl => match us, hl with | [_, _, _, _], _ => rfl
theorem En.b_subsets (S : En K mg) : Binds K S.d_subsets ["items", "most"] [] := S.F_subsets.binds fun _ _ _ _ _ _ us hl => match us, hl with | [_, _], _ => rfl
theorem En.b_begin_then_name (S : En K mg) : Binds K S.d_begin_then_name ["windows", "names"] [] := S.F_begin_then_name.binds fun _ _ _ _ _ _ us hl => match us, hl with | [_, _], _ => rfl
theorem En.b_open_at (S : En K mg) : Binds K S.d_open_at ["windows", "names", "minute"] [] := S.F_open_at.binds fun _ _ _ _ _ _ us hl => match us, hl with | [_, _, _], _ => rfl
theorem En.b_most_at_once (S : En K mg) : Binds K S.d_most_at_once ["windows", "names"] [] := S.F_most_at_once.binds fun _ _ _ _ _ _ us hl => match us, hl with | [_, _], _ => rfl
theorem En.b_without_doubles (S : En K mg) : Binds K S.d_without_doubles ["listing", "names"] [] := S.F_without_doubles.binds fun _ _ _ _ _ _ us hl => match us, hl with | [_, _], _ => rfl
theorem En.b_choices_among (S : En K mg) : Binds K S.d_choices_among ["listing", "windows", "receivers"] [] := S.F_choices_among.binds fun _ _ _ _ _ _ us hl => match us, hl with | [_, _, _], _ => rfl
theorem En.b_all_choices (S : En K mg) : Binds K S.d_all_choices ["book", "listing", "receivers"] [] := S.F_all_choices.binds fun _ _ _ _ _ _ us hl => match us, hl with | [_, _, _], _ => rfl
theorem En.b_worth (S : En K mg) : Binds K S.d_worth ["book", "listing", "names"] [] := S.F_worth.binds fun _ _ _ _ _ _ us hl => match us, hl with | [_, _, _], _ => rfl
theorem En.b_best_choice (S : En K mg) : Binds K S.d_best_choice ["book", "listing", "receivers"] [] := S.F_best_choice.binds fun _ _ _ _ _ _ us hl => match us, hl with | [_, _, _], _ => rfl
theorem En.b_windows_of (S : En K mg) : Binds K S.d_windows_of ["book", "listing", "names"] [] := S.F_windows_of.binds fun _ _ _ _ _ _ us hl => match us, hl with | [_, _, _], _ => rfl
theorem En.b_fewest_own (S : En K mg) : Binds K S.d_fewest_own ["book", "listing"] [] := S.F_fewest_own.binds fun _ _ _ _ _ _ us hl => match us, hl with | [_, _], _ => rfl
theorem En.b_busiest (S : En K mg) : Binds K S.d_busiest ["book", "listing", "names"] [] := S.F_busiest.binds fun _ _ _ _ _ _ us hl => match us, hl with | [_, _, _], _ => rfl
theorem En.b_recorded_minutes (S : En K mg) : Binds K S.d_recorded_minutes ["book", "listing", "receivers"] [] := S.F_recorded_minutes.binds fun _ _ _ _ _ _ us hl => match us, hl with | [_, _, _], _ => rfl
theorem En.b_minutes_of (S : En K mg) : Binds K S.d_minutes_of ["sizes", "names"] [] := S.F_minutes_of.binds fun _ _ _ _ _ _ us hl => match us, hl with | [_, _], _ => rfl
theorem En.b_among (S : En K mg) : Binds K S.d_among ["names", "others"] [] := S.F_among.binds fun _ _ _ _ _ _ us hl => match us, hl with | [_, _], _ => rfl
theorem En.b_on_disk (S : En K mg) : Binds K S.d_on_disk ["book", "listing", "receivers", "minutes", "protected"] [] := S.F_on_disk.binds fun _ _ _ _ _ _ us hl => match us, hl with | [_, _, _, _, _], _ => rfl
theorem En.b_least_disk (S : En K mg) : Binds K S.d_least_disk ["book", "listing", "receivers", "protected"] [] := S.F_least_disk.binds fun _ _ _ _ _ _ us hl => match us, hl with | [_, _, _, _], _ => rfl
theorem En.b_rounds (S : En K mg) : Binds K S.d_rounds ["book", "listing", "receivers"] [] := S.F_rounds.binds fun _ _ _ _ _ _ us hl => match us, hl with | [_, _, _], _ => rfl
theorem En.b_wrong_part_books (S : En K mg) : Binds K S.d_wrong_part_books ["show", "first", "last", "priority", "before", "after"] [] := S.F_wrong_part_books.binds fun _ _ _ _ _ _ us hl => match us, hl with | [_, _, _, _, _, _], _ => rfl
theorem En.b_check_delays (S : En K mg) : Binds K S.d_check_delays ["listing", "delays"] [] := S.F_check_delays.binds fun _ _ _ _ _ _ us hl => match us, hl with | [_, _], _ => rfl
theorem En.b_in_window (S : En K mg) : Binds K S.d_in_window ["book", "listing", "name", "delay"] [] := S.F_in_window.binds fun _ _ _ _ _ _ us hl => match us, hl with | [_, _, _, _], _ => rfl
theorem En.b_whole (S : En K mg) : Binds K S.d_whole ["book", "listing", "plan", "delays"] [] := S.F_whole.binds fun _ _ _ _ _ _ us hl => match us, hl with | [_, _, _, _], _ => rfl
theorem En.b_surely_whole (S : En K mg) : Binds K S.d_surely_whole ["book", "listing", "plan"] [] := S.F_surely_whole.binds fun _ _ _ _ _ _ us hl => match us, hl with | [_, _, _], _ => rfl
theorem En.b_wrong_part_listings (S : En K mg) : Binds K S.d_wrong_part_listings ["channel", "show", "episode", "begin", "end", "late"] [] := S.F_wrong_part_listings.binds fun _ _ _ _ _ _ us hl => match us, hl with | [_, _, _, _, _, _], _ => rfl
theorem En.b_difference (S : En K mg) : Binds K S.d_difference ["book", "other", "listing", "receivers"] [] := S.F_difference.binds fun _ _ _ _ _ _ us hl => match us, hl with | [_, _, _, _], _ => rfl
theorem En.b_law_mix (S : En K mg) : Binds K S.d_law_mix ["_law_script", "_law_seed"] [] := S.F_law_mix.binds fun _ _ _ _ _ _ us hl => match us, hl with | [_, _], _ => rfl
theorem En.b_law_next (S : En K mg) : Binds K S.d_law_next ["_law_h", "_law_limit"] [] := S.F_law_next.binds fun _ _ _ _ _ _ us hl => match us, hl with | [_, _], _ => rfl
theorem En.b_law_alike (S : En K mg) : Binds K S.d_law_alike ["_law_found", "_law_due"] [] := S.F_law_alike.binds fun _ _ _ _ _ _ us hl => match us, hl with | [_, _], _ => rfl
theorem En.b_law_sendings (S : En K mg) : Binds K S.d_law_sendings ["_law_h", "_law_many"] [] := S.F_law_sendings.binds fun _ _ _ _ _ _ us hl => match us, hl with | [_, _], _ => rfl
theorem En.b_law_rules (S : En K mg) : Binds K S.d_law_rules ["_law_h", "_law_many"] [] := S.F_law_rules.binds fun _ _ _ _ _ _ us hl => match us, hl with | [_, _], _ => rfl
theorem En.b_law_drawn (S : En K mg) : Binds K S.d_law_drawn ["_law_h", "_law_many"] [] := S.F_law_drawn.binds fun _ _ _ _ _ _ us hl => match us, hl with | [_, _], _ => rfl
theorem En.b_law_listing (S : En K mg) : Binds K S.d_law_listing ["_law_sendings_here"] [] := S.F_law_listing.binds fun _ _ _ _ _ _ us hl => match us, hl with | [_], _ => rfl
theorem En.b_law_book (S : En K mg) : Binds K S.d_law_book ["_law_rules_here", "_law_seen"] [] := S.F_law_book.binds fun _ _ _ _ _ _ us hl => match us, hl with | [_, _], _ => rfl
theorem En.b_law_sizes (S : En K mg) : Binds K S.d_law_sizes ["_law_h", "_law_short", "_law_wide", "_law_receivers", "_law_plan", "_law_factor"] [] := S.F_law_sizes.binds fun _ _ _ _ _ _ us hl => match us, hl with | [_, _, _, _, _, _], _ => rfl
theorem En.e7_Rule_init (S : En K mg) : ∃ ds, Vals (List.drop 2 [.int 0, .int 0]) ds ∧ Binds K S.d_Rule_init ["self", "show", "first", "last", "priority", "before", "after"] ds := FunD.binds1 S.F_Rule_init 7 2 (by simp) rfl fun _ _ _ _ _ _ _ us its hl hi => match us, its, hl, hi with | [_, _, _, _, _, _, _], [_, _], _, _ => ⟨_, rfl, rfl⟩
noncomputable def En.w7_Rule_init (S : En K mg) : List Value := Classical.choose S.e7_Rule_init
theorem En.v7_Rule_init (S : En K mg) : Vals (List.drop 2 [.int 0, .int 0]) S.w7_Rule_init := (Classical.choose_spec S.e7_Rule_init).1
theorem En.b7_Rule_init (S : En K mg) : Binds K S.d_Rule_init ["self", "show", "first", "last", "priority", "before", "after"] S.w7_Rule_init := (Classical.choose_spec S.e7_Rule_init).2
theorem En.b_Rule_show (S : En K mg) : Binds K S.d_Rule_show ["self"] [] := S.F_Rule_show.binds fun _ _ _ _ _ _ us hl => match us, hl with | [_], _ => rfl
theorem En.b_Rule_first (S : En K mg) : Binds K S.d_Rule_first ["self"] [] := S.F_Rule_first.binds fun _ _ _ _ _ _ us hl => match us, hl with | [_], _ => rfl
theorem En.b_Rule_last (S : En K mg) : Binds K S.d_Rule_last ["self"] [] := S.F_Rule_last.binds fun _ _ _ _ _ _ us hl => match us, hl with | [_], _ => rfl
theorem En.b_Rule_priority (S : En K mg) : Binds K S.d_Rule_priority ["self"] [] := S.F_Rule_priority.binds fun _ _ _ _ _ _ us hl => match us, hl with | [_], _ => rfl
theorem En.b_Rule_before (S : En K mg) : Binds K S.d_Rule_before ["self"] [] := S.F_Rule_before.binds fun _ _ _ _ _ _ us hl => match us, hl with | [_], _ => rfl
theorem En.b_Rule_after (S : En K mg) : Binds K S.d_Rule_after ["self"] [] := S.F_Rule_after.binds fun _ _ _ _ _ _ us hl => match us, hl with | [_], _ => rfl
theorem En.e3_Book_init (S : En K mg) : ∃ ds, Vals (List.drop 1 [.ref S.a_Book_init]) ds ∧ Binds K S.d_Book_init ["self", "rules", "seen"] ds := FunD.binds1 S.F_Book_init 3 1 (by simp) rfl fun _ _ _ _ _ _ _ us its hl hi => match us, its, hl, hi with | [_, _, _], [_], _, _ => ⟨_, rfl, rfl⟩
noncomputable def En.w3_Book_init (S : En K mg) : List Value := Classical.choose S.e3_Book_init
theorem En.v3_Book_init (S : En K mg) : Vals (List.drop 1 [.ref S.a_Book_init]) S.w3_Book_init := (Classical.choose_spec S.e3_Book_init).1
theorem En.b3_Book_init (S : En K mg) : Binds K S.d_Book_init ["self", "rules", "seen"] S.w3_Book_init := (Classical.choose_spec S.e3_Book_init).2
theorem En.b_Book_rules (S : En K mg) : Binds K S.d_Book_rules ["self"] [] := S.F_Book_rules.binds fun _ _ _ _ _ _ us hl => match us, hl with | [_], _ => rfl
theorem En.b_Book_rule_of (S : En K mg) : Binds K S.d_Book_rule_of ["self", "show", "episode"] [] := S.F_Book_rule_of.binds fun _ _ _ _ _ _ us hl => match us, hl with | [_, _, _], _ => rfl
theorem En.b_Book_with_seen (S : En K mg) : Binds K S.d_Book_with_seen ["self", "episodes"] [] := S.F_Book_with_seen.binds fun _ _ _ _ _ _ us hl => match us, hl with | [_, _], _ => rfl
theorem En.e7_Sending_init (S : En K mg) : ∃ ds, Vals (List.drop 1 [.int 0]) ds ∧ Binds K S.d_Sending_init ["self", "channel", "show", "episode", "begin", "end", "late"] ds := FunD.binds1 S.F_Sending_init 7 1 (by simp) rfl fun _ _ _ _ _ _ _ us its hl hi => match us, its, hl, hi with | [_, _, _, _, _, _, _], [_], _, _ => ⟨_, rfl, rfl⟩
noncomputable def En.w7_Sending_init (S : En K mg) : List Value := Classical.choose S.e7_Sending_init
theorem En.v7_Sending_init (S : En K mg) : Vals (List.drop 1 [.int 0]) S.w7_Sending_init := (Classical.choose_spec S.e7_Sending_init).1
theorem En.b7_Sending_init (S : En K mg) : Binds K S.d_Sending_init ["self", "channel", "show", "episode", "begin", "end", "late"] S.w7_Sending_init := (Classical.choose_spec S.e7_Sending_init).2
theorem En.b_Sending_show (S : En K mg) : Binds K S.d_Sending_show ["self"] [] := S.F_Sending_show.binds fun _ _ _ _ _ _ us hl => match us, hl with | [_], _ => rfl
theorem En.b_Sending_episode (S : En K mg) : Binds K S.d_Sending_episode ["self"] [] := S.F_Sending_episode.binds fun _ _ _ _ _ _ us hl => match us, hl with | [_], _ => rfl
theorem En.b_Sending_begin (S : En K mg) : Binds K S.d_Sending_begin ["self"] [] := S.F_Sending_begin.binds fun _ _ _ _ _ _ us hl => match us, hl with | [_], _ => rfl
theorem En.b_Sending_end (S : En K mg) : Binds K S.d_Sending_end ["self"] [] := S.F_Sending_end.binds fun _ _ _ _ _ _ us hl => match us, hl with | [_], _ => rfl
theorem En.b_Sending_late (S : En K mg) : Binds K S.d_Sending_late ["self"] [] := S.F_Sending_late.binds fun _ _ _ _ _ _ us hl => match us, hl with | [_], _ => rfl
theorem En.b_Listing_init (S : En K mg) : Binds K S.d_Listing_init ["self", "sendings"] [] := S.F_Listing_init.binds fun _ _ _ _ _ _ us hl => match us, hl with | [_, _], _ => rfl
theorem En.b_Listing_names (S : En K mg) : Binds K S.d_Listing_names ["self"] [] := S.F_Listing_names.binds fun _ _ _ _ _ _ us hl => match us, hl with | [_], _ => rfl
theorem En.b_Listing_only (S : En K mg) : Binds K S.d_Listing_only ["self", "names"] [] := S.F_Listing_only.binds fun _ _ _ _ _ _ us hl => match us, hl with | [_, _], _ => rfl
theorem En.b_Listing_getitem (S : En K mg) : Binds K S.d_Listing_getitem ["self", "name"] [] := S.F_Listing_getitem.binds fun _ _ _ _ _ _ us hl => match us, hl with | [_, _], _ => rfl
theorem En.b_Listing_contains (S : En K mg) : Binds K S.d_Listing_contains ["self", "name"] [] := S.F_Listing_contains.binds fun _ _ _ _ _ _ us hl => match us, hl with | [_, _], _ => rfl
theorem En.b_Listing_len (S : En K mg) : Binds K S.d_Listing_len ["self"] [] := S.F_Listing_len.binds fun _ _ _ _ _ _ us hl => match us, hl with | [_], _ => rfl
theorem En.b_InvalidSending_init (S : En K mg) : Binds K S.d_InvalidSending_init ["self", "part"] [] := S.F_InvalidSending_init.binds fun _ _ _ _ _ _ us hl => match us, hl with | [_, _], _ => rfl
theorem En.b_InvalidListing_init (S : En K mg) : Binds K S.d_InvalidListing_init ["self", "name"] [] := S.F_InvalidListing_init.binds fun _ _ _ _ _ _ us hl => match us, hl with | [_, _], _ => rfl
theorem En.b_InvalidRule_init (S : En K mg) : Binds K S.d_InvalidRule_init ["self", "part"] [] := S.F_InvalidRule_init.binds fun _ _ _ _ _ _ us hl => match us, hl with | [_, _], _ => rfl
theorem En.b_InvalidDelay_init (S : En K mg) : Binds K S.d_InvalidDelay_init ["self", "name"] [] := S.F_InvalidDelay_init.binds fun _ _ _ _ _ _ us hl => match us, hl with | [_, _], _ => rfl
end
section
variable {P : Program} {w : World} {K : PySem.W.Frag} {mg : Str → Option Value} {base : Heap}
theorem ok_InvalidSending (S : En K mg) : FnOk P w K mg base CX0 1 S.f_InvalidSending_init S.d_InvalidSending_init ["self", "part"] (spX1 "part" S.C_InvalidSending) := ok_x1 S.F_InvalidSending_init sc_InvalidSending_init S.T_InvalidSending S.nf_InvalidSending (fun _ _ _ _ _ _ => pss_one (ps_ost (pv 0) (pv 1)))
theorem ok_InvalidListing (S : En K mg) : FnOk P w K mg base CX0 1 S.f_InvalidListing_init S.d_InvalidListing_init ["self", "name"] (spX1 "name" S.C_InvalidListing) := ok_x1 S.F_InvalidListing_init sc_InvalidListing_init S.T_InvalidListing S.nf_InvalidListing (fun _ _ _ _ _ _ => pss_one (ps_ost (pv 0) (pv 1)))
theorem ok_InvalidRule (S : En K mg) : FnOk P w K mg base CX0 1 S.f_InvalidRule_init S.d_InvalidRule_init ["self", "part"] (spX1 "part" S.C_InvalidRule) := ok_x1 S.F_InvalidRule_init sc_InvalidRule_init S.T_InvalidRule S.nf_InvalidRule (fun _ _ _ _ _ _ => pss_one (ps_ost (pv 0) (pv 1)))
theorem ok_InvalidDelay (S : En K mg) : FnOk P w K mg base CX0 1 S.f_InvalidDelay_init S.d_InvalidDelay_init ["self", "name"] (spX1 "name" S.C_InvalidDelay) := ok_x1 S.F_InvalidDelay_init sc_InvalidDelay_init S.T_InvalidDelay S.nf_InvalidDelay (fun _ _ _ _ _ _ => pss_one (ps_ost (pv 0) (pv 1)))
end
section
variable {P : Program} {w : World} {K : PySem.W.Frag} {mg : Str → Option Value} {base : Heap}
theorem ok_is_word (S : En K mg) : FnOk P w K mg base (L2.CX P w) 1 S.f_is_word S.d_is_word ["value"] (lowF K ctWord) := by
  refine fn_low _ S.F_is_word sc_is_word (fun ss st ok ex h => ?_) ?_ (fun cdv A outer s H E hr tk po => (bone (sret (dand (disi K S.n_isinstance S.n_str kb_str (dv 0)) (dand (dchain op_le op_le lr_le lr_le di (dcb call_len_str lc_lenS S.n_len PySem.boot_len (acons (dv 0) anil)) di) (done (dcb (cr_all rfl) lc_all S.n_all PyProof.Rows.boot_all (acons (dlc [("letter", 1)] sc_is_word.nd (iS (dv 0)) (blkOk_by (N := ["value", "letter"]) (sc := defScope s_is_word) (by decide +kernel)) (fun _ _ _ _ _ => (gwname 1 sc_is_word.nd)) (fun _ _ _ _ _ => tsnil) (fun _ _ _ _ _ => (dchain op_le_str op_le_str lr_leStr lr_leStr ds (dv 1) ds))) anil))))))))
  · (repeat (first | (obtain ⟨rfl, _⟩ := h; rfl) | (obtain ⟨_, h⟩ := h)))
  · rintro ss st ok ex ⟨x, rfl, hx, k⟩
    cases x with
    | str z =>
      walk_at "d"
      walk_at "w"
      refine ⟨hx, ?_⟩
      walk_at "w"
      refine ⟨fun h1 => ?_, fun h1 => ?_⟩
      · walk_at "w"
        refine ⟨fun h2 => ?_, fun h2 => ?_⟩
        · walk_at "w"
          have hl8 : z.cps.toList.length ≤ sizeLine := hx
          refine lc_pure z.cps.toList (fun c => .str ⟨#[c]⟩) (fun c => some (.bl (decide (97 ≤ c) && decide (c ≤ 122)))) rfl ?_ ?_
          · intro i c D acc hc hD J
            walk_at "d"
            walk_at "w"
            have e1 : (!decide ((⟨#[c]⟩ : Str).cps.toList < (Str.ofString "a").cps.toList)) = decide (97 ≤ c) := le_a c
            have e2 : (!decide ((Str.ofString "z").cps.toList < (⟨#[c]⟩ : Str).cps.toList)) = decide (c ≤ 122) := le_z c
            refine ⟨fun h => ?_, fun h => ?_⟩
            · walk_at "w"
              have h' : decide (97 ≤ c) = true := by rw [← e1]; exact h
              exact lc_yes hl8 hc J (by rw [h', Bool.true_and, ← e2])
            · walk_at "w"
              have h' : decide (97 ≤ c) = false := by rw [← e1]; exact h
              exact lc_yes hl8 hc J (by rw [h', Bool.false_and])
          · walk_at "w"
            refine ⟨z.cps.toList.map fun c => decide (97 ≤ c) && decide (c ≤ 122), ?_, ?_⟩
            · rw [List.map_map, ← List.filterMap_eq_map]
              rfl
            · walk_at "f"
              have hk : wordD (.str z) = (z.cps.toList.map fun c => decide (97 ≤ c) && decide (c ≤ 122)).all id := by
                unfold wordD isWord
                dsimp only
                rw [h1, h2, List.all_map]
                rfl
              rw [hk] at k
              exact k
        · walk_at "f"
          have hk : wordD (.str z) = false := by unfold wordD isWord; dsimp only; rw [h2, Bool.and_false, Bool.false_and]
          rw [hk] at k
          exact k
      · walk_at "d"
        walk_at "f"
        have hk : wordD (.str z) = false := by unfold wordD isWord; dsimp only; rw [h1, Bool.false_and, Bool.false_and]
        rw [hk] at k
        exact k
    | non => walk_at "d"; walk_at "f"; exact k
    | bl b => walk_at "d"; walk_at "f"; exact k
    | int i => walk_at "d"; walk_at "f"; exact k
    | _ => cases hx
theorem ok_is_number (S : En K mg) : FnOk P w K mg base (L2.CX P w) 1 S.f_is_number S.d_is_number ["value", "least", "greatest"] (lowF K ctNum) := by
  refine fn_low _ S.F_is_number sc_is_number (fun ss st ok ex h => ?_) ?_ (fun cdv A outer s H E hr tk po => (bone (sret (dand (disi K S.n_isinstance S.n_int kb_int (dv 0)) (dand (dnot (disi K S.n_isinstance S.n_bool kb_bool (dv 0))) (done (dchain op_le op_le lr_le lr_le (dv 1) (dv 0) (dv 2))))))))
  · (repeat (first | (obtain ⟨rfl, _⟩ := h; rfl) | (obtain ⟨_, h⟩ := h)))
  · rintro ss st ok ex ⟨x, a, b, rfl, hx, k⟩
    cases x with
    | int i =>
      walk_at "d"
      walk_at "d"
      walk_at "w"
      refine ⟨fun h => ?_, fun h => ?_⟩
      · walk_at "f"
        have hk : isNum (.int i) a b = decide (i ≤ b) := by unfold isNum; dsimp only; rw [h, Bool.true_and]
        rw [hk] at k
        exact k
      · walk_at "f"
        have hk : isNum (.int i) a b = false := by unfold isNum; dsimp only; rw [h, Bool.false_and]
        rw [hk] at k
        exact k
    | non => walk_at "d"; walk_at "f"; exact k
    | bl b => walk_at "d"; walk_at "d"; walk_at "f"; exact k
    | str i => walk_at "d"; walk_at "f"; exact k
    | _ => cases hx
theorem ok_Listing_getitem (S : En K mg) : FnOk P w K mg base (L2.CX P w) 1 S.f_Listing_getitem S.d_Listing_getitem ["self", "name"] (lowF K (ctItem ⟨S.C_Book, S.C_Rule, S.C_Listing, S.C_Sending⟩)) := by
  refine fn_low _ S.F_Listing_getitem sc_Listing_getitem (fun ss st ok ex h => ?_) ?_ (fun cdv A outer s H E hr tk po => (bcons (sif (tdNi (hu1 hr) (dv 1) (dfld K (dv 0)))
   (bone (sraise0 PySem.F.excBase_ValueError S.x_UnknownName S.g_UnknownName S.kc_UnknownName (raises_own S.r_UnknownName S.ty_UnknownName) tk)) bnil)
  (bone (sret (ddget (hu1 hr) (dfld K (dv 0)) (dv 1))))))
  · rw [ctItem_eq] at h; obtain ⟨_, _, _, rfl, _⟩ := h; rfl
  · intro ss st ok ex h
    rw [ctItem_eq] at h
    obtain ⟨l, n, x, rfl, hx, k⟩ := h
    walk_at "w"
    refine ⟨S.cl_Listing, S.na_Listing_sendings, _, rfl, ?_⟩
    walk_at "w"
    refine ⟨.inr n, rfl, ?_⟩
    have e := getD_dic (Snd.d S.C_Sending) l n
    rw [hx] at e
    rw [e]
    refine ⟨fun h => absurd h Bool.false_ne_true, fun _ => ?_⟩
    walk_at "w"
    refine ⟨S.cl_Listing, S.na_Listing_sendings, _, rfl, ?_⟩
    walk_at "w"
    refine ⟨.inr n, _, rfl, e, ?_⟩
    walk_at "f"
    exact k
theorem ok_Listing_contains (S : En K mg) : FnOk P w K mg base (L2.CX P w) 1 S.f_Listing_contains S.d_Listing_contains ["self", "name"] (lowF K (ctHas ⟨S.C_Book, S.C_Rule, S.C_Listing, S.C_Sending⟩)) := by
  refine fn_low _ S.F_Listing_contains sc_Listing_contains (fun ss st ok ex h => ?_) ?_ (fun cdv A outer s H E hr tk po => (bone (sret (ddIn (hu1 hr) (dv 1) (dfld K (dv 0))))))
  · rw [ctHas_eq] at h; obtain ⟨_, _, rfl, _⟩ := h; rfl
  · intro ss st ok ex h
    rw [ctHas_eq] at h
    obtain ⟨l, n, rfl, k⟩ := h
    walk_at "w"
    refine ⟨S.cl_Listing, S.na_Listing_sendings, _, rfl, ?_⟩
    walk_at "w"
    refine ⟨.inr n, rfl, ?_⟩
    have e := getD_dic (Snd.d S.C_Sending) l n
    rw [e]
    walk_at "f"
    rw [Option.isSome_map]
    exact k
theorem ok_Listing_len (S : En K mg) : FnOk P w K mg base (L2.CX P w) 1 S.f_Listing_len S.d_Listing_len ["self"] (lowF K (ctLen ⟨S.C_Book, S.C_Rule, S.C_Listing, S.C_Sending⟩)) := by
  refine fn_low _ S.F_Listing_len sc_Listing_len (fun ss st ok ex h => ?_) ?_ (fun cdv A outer s H E hr tk po => (bone (sret (dcb call_lenR lc_lenK S.n_len PySem.boot_len (acons (dfld K (dv 0)) anil)))))
  · rw [ctLen_eq] at h; obtain ⟨_, rfl, _⟩ := h; rfl
  · intro ss st ok ex h
    rw [ctLen_eq] at h
    obtain ⟨l, rfl, k⟩ := h
    walk_at "w"
    refine ⟨S.cl_Listing, S.na_Listing_sendings, _, rfl, ?_⟩
    walk_at "f"
    rw [List.length_map, List.length_map]
    exact k
theorem ok_is_receivers (S : En K mg) : FnOk P w K mg base (L2.CX P w) 2 S.f_is_receivers S.d_is_receivers ["value"] (lowF K ctIsRecX) := by
  refine fn_low _ S.F_is_receivers sc_is_receivers (fun ss st ok ex h => ?_) ?_ (fun cdv A outer s H E hr tk po => (bone (sret (dcall (dds := []) (ok_is_number S) (hr.mono (by decide)) S.g_is_number S.F_is_number.kp S.b_is_number .nil (fun _ => .nil) tk (acons (dv 0) (acons di (acons (dgl S.c_MOST_RECEIVERS S.r_MOST_RECEIVERS) anil)))))))
  · rcases h with ⟨_, rfl, _⟩ | ⟨_, rfl, _⟩ <;> rfl
  · rintro ss st ok ex (⟨k0, rfl, h1, h2, k⟩ | ⟨d, rfl, ⟨hp, hd⟩, k⟩)
    · walk_at "w"
      refine ⟨.int k0, 1, 10, rfl, trivial, ?_⟩
      rw [show isNum (.int (k0 : Int)) 1 10 = true by unfold isNum; dsimp only; rw [decide_eq_true (by omega), decide_eq_true (by omega)]; rfl]
      walk_at "f"
      exact k
    · walk_at "w"
      refine ⟨d, 1, 10, rfl, hp, ?_⟩
      rw [hd]
      walk_at "f"
      exact k
theorem ok_check_receivers (S : En K mg) : FnOk P w K mg base (L2.CX P w) 3 S.f_check_receivers S.d_check_receivers ["value"] (lowF K (ctChkRecX S.C_InvalidNumber)) := by
  refine fn_low _ S.F_check_receivers sc_check_receivers (fun ss st ok ex h => ?_) ?_ (fun cdv A outer s H E hr tk po => (bone (sif (tnot (tval (dcall (dds := []) (ok_is_receivers S) (hr.mono (by decide)) S.g_is_receivers S.F_is_receivers.kp S.b_is_receivers .nil (fun _ => .nil) tk (acons (dv 0) anil))))
   (bone (sraise0 PySem.F.excBase_ValueError S.x_InvalidNumber S.g_InvalidNumber S.kc_InvalidNumber (raises_own S.r_InvalidNumber S.ty_InvalidNumber) tk)) bnil)))
  · rcases h with ⟨_, rfl, _⟩ | ⟨_, rfl, _⟩ <;> rfl
  · rintro ss st ok ex (⟨k0, rfl, h1, h2, k⟩ | ⟨d, rfl, hd, k⟩)
    · walk_at "w"
      refine Or.inl ⟨k0, rfl, h1, h2, ?_⟩
      walk_at "dd"
      walk_at "w"
      exact ⟨_, List.Sublist.refl _, k⟩
    · walk_at "w"
      refine Or.inr ⟨d, rfl, hd, ?_⟩
      walk_at "ss"
      exact ⟨st, List.Sublist.refl _, k⟩
theorem ok_check_number (S : En K mg) : FnOk P w K mg base (L2.CX P w) 2 S.f_check_number S.d_check_number ["value", "least", "greatest"] (lowF K (ctChkNum S.C_InvalidNumber)) := by
  refine fn_low _ S.F_check_number sc_check_number (fun ss st ok ex h => ?_) ?_ (fun cdv A outer s H E hr tk po => (bone (sif (tnot (tval (dcall (dds := []) (ok_is_number S) (hr.mono (by decide)) S.g_is_number S.F_is_number.kp S.b_is_number .nil (fun _ => .nil) tk (acons (dv 0) (acons (dv 1) (acons (dv 2) anil))))))
   (bone sdead) bnil)))
  · (repeat (first | (obtain ⟨rfl, _⟩ := h; rfl) | (obtain ⟨_, h⟩ := h)))
  · rintro ss st ok ex ⟨m, a, z, rfl, h1, h2, k⟩
    walk_at "w"
    refine ⟨.int m, a, z, rfl, trivial, ?_⟩
    have e : isNum (.int m) a z = true := by unfold isNum; dsimp only; rw [decide_eq_true h1, decide_eq_true h2]; rfl
    rw [e]
    refine ⟨fun c => absurd c (by decide), fun _ => ?_⟩
    walk_at "w"
    exact ⟨st, List.Sublist.refl _, k⟩
theorem ok_Rule_show (S : En K mg) : FnOk P w K mg base (L2.CX P w) 1 S.f_Rule_show S.d_Rule_show ["self"] (lowF K (ctGet S.C_Rule "_show")) := by
  refine fn_low _ S.F_Rule_show sc_Rule_show (fun ss st ok ex h => ?_) ?_ (fun cdv A outer s H E hr tk po => (bone (sret (dfld K (dv 0)))))
  · (repeat (first | (obtain ⟨rfl, _⟩ := h; rfl) | (obtain ⟨_, h⟩ := h)))
  · rintro ss st ok ex ⟨fs, d, rfl, hl, k⟩
    walk_at "w"
    refine ⟨S.cl_Rule, S.na_Rule_show, d, hl, ?_⟩
    walk_at "f"
    exact k
theorem ok_Sending_show (S : En K mg) : FnOk P w K mg base (L2.CX P w) 1 S.f_Sending_show S.d_Sending_show ["self"] (lowF K (ctGet S.C_Sending "_show")) := by
  refine fn_low _ S.F_Sending_show sc_Sending_show (fun ss st ok ex h => ?_) ?_ (fun cdv A outer s H E hr tk po => (bone (sret (dfld K (dv 0)))))
  · (repeat (first | (obtain ⟨rfl, _⟩ := h; rfl) | (obtain ⟨_, h⟩ := h)))
  · rintro ss st ok ex ⟨fs, d, rfl, hl, k⟩
    walk_at "w"
    refine ⟨S.cl_Sending, S.na_Sending_show, d, hl, ?_⟩
    walk_at "f"
    exact k
theorem ok_Sending_episode (S : En K mg) : FnOk P w K mg base (L2.CX P w) 1 S.f_Sending_episode S.d_Sending_episode ["self"] (lowF K (ctGet S.C_Sending "_episode")) := by
  refine fn_low _ S.F_Sending_episode sc_Sending_episode (fun ss st ok ex h => ?_) ?_ (fun cdv A outer s H E hr tk po => (bone (sret (dfld K (dv 0)))))
  · (repeat (first | (obtain ⟨rfl, _⟩ := h; rfl) | (obtain ⟨_, h⟩ := h)))
  · rintro ss st ok ex ⟨fs, d, rfl, hl, k⟩
    walk_at "w"
    refine ⟨S.cl_Sending, S.na_Sending_episode, d, hl, ?_⟩
    walk_at "f"
    exact k
theorem ok_episode_of (S : En K mg) : FnOk P w K mg base (L2.CX P w) 3 S.f_episode_of S.d_episode_of ["sending"] (lowF K (ctEp ⟨S.C_Book, S.C_Rule, S.C_Listing, S.C_Sending⟩)) := by
  refine fn_low _ S.F_episode_of sc_episode_of (fun ss st ok ex h => ?_) ?_ (fun cdv A outer s H E hr tk po => (bone (sret (dtup (acons (dprop S.cl_Sending S.p_Sending_show (ok_Sending_show S) (hr.mono (by decide)) S.b_Sending_show (dv 0)) (acons (dprop S.cl_Sending S.p_Sending_episode (ok_Sending_episode S) (hr.mono (by decide)) S.b_Sending_episode (dv 0)) anil))))))
  · (repeat (first | (obtain ⟨rfl, _⟩ := h; rfl) | (obtain ⟨_, h⟩ := h)))
  · rintro ss st ok ex ⟨x, rfl, k⟩
    walk_at "w"
    refine ⟨rfl, _, _, rfl, rfl, ?_⟩
    walk_at "w"
    refine ⟨rfl, _, _, rfl, rfl, ?_⟩
    walk_at "zz"
    walk_at "f"
    exact k
theorem ok_Rule_first (S : En K mg) : FnOk P w K mg base (L2.CX P w) 1 S.f_Rule_first S.d_Rule_first ["self"] (lowF K (ctGet S.C_Rule "_first")) := by
  refine fn_low _ S.F_Rule_first sc_Rule_first (fun ss st ok ex h => ?_) ?_ (fun cdv A outer s H E hr tk po => (bone (sret (dfld K (dv 0)))))
  · (repeat (first | (obtain ⟨rfl, _⟩ := h; rfl) | (obtain ⟨_, h⟩ := h)))
  · rintro ss st ok ex ⟨fs, d, rfl, hl, k⟩
    walk_at "w"
    refine ⟨S.cl_Rule, S.na_Rule_first, d, hl, ?_⟩
    walk_at "f"
    exact k
theorem ok_Rule_last (S : En K mg) : FnOk P w K mg base (L2.CX P w) 1 S.f_Rule_last S.d_Rule_last ["self"] (lowF K (ctGet S.C_Rule "_last")) := by
  refine fn_low _ S.F_Rule_last sc_Rule_last (fun ss st ok ex h => ?_) ?_ (fun cdv A outer s H E hr tk po => (bone (sret (dfld K (dv 0)))))
  · (repeat (first | (obtain ⟨rfl, _⟩ := h; rfl) | (obtain ⟨_, h⟩ := h)))
  · rintro ss st ok ex ⟨fs, d, rfl, hl, k⟩
    walk_at "w"
    refine ⟨S.cl_Rule, S.na_Rule_last, d, hl, ?_⟩
    walk_at "f"
    exact k
theorem ok_Book_rule_of (S : En K mg) : FnOk P w K mg base (L2.CX P w) 3 S.f_Book_rule_of S.d_Book_rule_of ["self", "show", "episode"] (lowF K (ctRuleOf ⟨S.C_Book, S.C_Rule, S.C_Listing, S.C_Sending⟩)) := by
  refine fn_low _ S.F_Book_rule_of sc_Book_rule_of (fun ss st ok ex h => ?_) ?_ (fun cdv A outer s H E hr tk po => (bcons (sif (tsIn hr (dtup (acons (dv 1) (acons (dv 2) anil))) (dfld K (dv 0)))
   (bone (sret dn)) bnil)
  (bcons (sfor po (iT (dfld K (dv 0))) (gname 3 sc_Book_rule_of.nd)
   (bone (sif (tw (wand (tcmp op_eq lr_eqS (dprop S.cl_Rule S.p_Rule_show (ok_Rule_show S) (hr.mono (by decide)) S.b_Rule_show (dv 3)) (dv 1) (nomark _)) (wand1 (tchain op_le op_le lr_le lr_le (dprop S.cl_Rule S.p_Rule_first (ok_Rule_first S) (hr.mono (by decide)) S.b_Rule_first (dv 3)) (dv 2) (dprop S.cl_Rule S.p_Rule_last (ok_Rule_last S) (hr.mono (by decide)) S.b_Rule_last (dv 3))))))
   (bone (sret (dv 3))) bnil)))
  (bone (sret dn)))))
  · rw [ctRuleOf_eq] at h; obtain ⟨_, _, _, rfl, _⟩ := h; rfl
  · intro ss st ok ex h
    rw [ctRuleOf_eq] at h
    obtain ⟨b, s, e, rfl, hb, hs, k⟩ := h
    walk_at "zz"
    refine ⟨S.cl_Book, S.na_Book_seen, _, rfl, ?_⟩
    walk_at "w"
    refine ⟨epP (s, e), b.seen.map epP, ep_of (s, e), eps_of _, ep_shaped (s, e) hs, eps_lay _ hb.sok, ?_⟩
    rw [ep_any]
    unfold ruleOf at k
    refine ⟨fun h => ?_, fun h => ?_⟩
    · have h' := of_decide_eq_true h
      rw [if_pos h'] at k
      walk_at "f"
      exact k
    have h' := of_decide_eq_false h
    rw [if_neg h'] at k
    walk_at "w"
    refine ⟨S.cl_Book, S.na_Book_rules, _, rfl, ?_⟩
    walk_at "w"
    refine loop_find b.rules (Rul.d S.C_Rule) (fun r => decide (r.show_ = s) && (decide (r.first ≤ e) && decide (e ≤ r.last))) (fun Δ st' => Δ.length = 4 ∧ (Δ.take 3) = [.dat (b.d ⟨S.C_Book, S.C_Rule, S.C_Listing, S.C_Sending⟩), .dat (.str s), dI e] ∧ st' = st) (by simp) ⟨rfl, rfl, rfl⟩ ?_ ?_
    · rintro i r Δ' st' hi J
      obtain ⟨h1, h2, h3⟩ := J.r
      subst h3
      obtain ⟨v, rfl⟩ : ∃ v, Δ' = [.dat (b.d ⟨S.C_Book, S.C_Rule, S.C_Listing, S.C_Sending⟩), .dat (.str s), dI e, v] := by
        match Δ', h1, h2 with
        | [_, _, _, v], _, h2 => cases h2; exact ⟨v, rfl⟩
      walk_at "w"
      refine ⟨rfl, _, _, rfl, rfl, ?_⟩
      walk_at "w"
      refine ⟨fun e1 => ?_, fun e1 => ?_⟩
      · walk_at "w"
        refine ⟨rfl, _, _, rfl, rfl, ?_⟩
        walk_at "w"
        refine ⟨fun e2 => ?_, fun e2 => ?_⟩
        · walk_at "w"
          refine ⟨rfl, _, _, rfl, rfl, ?_⟩
          walk_at "w"
          refine ⟨fun e3 => ?_, fun e3 => ?_⟩
          · walk_at "f"
            have hp : (decide (r.show_ = s) && (decide (r.first ≤ e) && decide (e ≤ r.last))) = true := by
              rw [show decide (r.show_ = s) = true from e1, show decide (r.first ≤ e) = true from e2, show decide (e ≤ r.last) = true from e3]; rfl
            rw [fj_yes hi J hp] at k
            exact k
          · walk_at "w"
            refine fj_no hi J ?_ ⟨rfl, rfl, rfl⟩
            show (decide (r.show_ = s) && (decide (r.first ≤ e) && decide (e ≤ r.last))) = false
            rw [show decide (r.show_ = s) = true from e1, show decide (r.first ≤ e) = true from e2, show decide (e ≤ r.last) = false from e3]; rfl
        · walk_at "ss"
          refine fj_no hi J ?_ ⟨rfl, rfl, rfl⟩
          show (decide (r.show_ = s) && (decide (r.first ≤ e) && decide (e ≤ r.last))) = false
          rw [show decide (r.show_ = s) = true from e1, show decide (r.first ≤ e) = false from e2]; rfl
      · walk_at "ss"
        refine fj_no hi J ?_ ⟨rfl, rfl, rfl⟩
        show (decide (r.show_ = s) && (decide (r.first ≤ e) && decide (e ≤ r.last))) = false
        rw [show decide (r.show_ = s) = false from e1]; rfl
    · rintro Δ' st' ⟨h1, h2, h3⟩ hn
      subst h3
      rw [hn] at k
      walk_at "f"
      exact k
theorem ok_rule_for (S : En K mg) : FnOk P w K mg base (L2.CX P w) 4 S.f_rule_for S.d_rule_for ["book", "sending"] (lowF K (ctRuleFor ⟨S.C_Book, S.C_Rule, S.C_Listing, S.C_Sending⟩)) := by
  refine fn_low _ S.F_rule_for sc_rule_for (fun ss st ok ex h => ?_) ?_ (fun cdv A outer s H E hr tk po => (bone (sret (dmeth (dds := []) S.cl_Book S.m_Book_rule_of (ok_Book_rule_of S) (hr.mono (by decide)) S.b_Book_rule_of .nil (fun _ => .nil) tk (dv 0) (acons (dprop S.cl_Sending S.p_Sending_show (ok_Sending_show S) (hr.mono (by decide)) S.b_Sending_show (dv 1)) (acons (dprop S.cl_Sending S.p_Sending_episode (ok_Sending_episode S) (hr.mono (by decide)) S.b_Sending_episode (dv 1)) anil))))))
  · rw [ctRuleFor_eq] at h; obtain ⟨_, _, rfl, _⟩ := h; rfl
  · intro ss st ok ex h
    rw [ctRuleFor_eq] at h
    obtain ⟨b, x, rfl, hb, hx, k⟩ := h
    walk_at "w"
    refine ⟨rfl, rfl, rfl, _, _, rfl, rfl, ?_⟩
    walk_at "w"
    refine ⟨rfl, _, _, rfl, rfl, ?_⟩
    walk_at "w"
    rw [ctRuleOf_eq]
    refine ⟨b, _, _, rfl, hb, hx.sh, ?_⟩
    walk_at "f"
    exact k
theorem ok_Listing_names (S : En K mg) : FnOk P w K mg base (L2.CX P w) 1 S.f_Listing_names S.d_Listing_names ["self"] (lowF K (ctNames ⟨S.C_Book, S.C_Rule, S.C_Listing, S.C_Sending⟩)) := by
  refine fn_low _ S.F_Listing_names sc_Listing_names (fun ss st ok ex h => ?_) ?_ (fun cdv A outer s H E hr tk po => (bone (sret (dct (call_tupleK rfl) lc_tupK S.n_tuple PyProof.Rows.boot_tuple (acons (dfld K (dv 0)) anil)))))
  · rw [ctNames_eq] at h; obtain ⟨_, rfl, _⟩ := h; rfl
  · intro ss st ok ex h
    rw [ctNames_eq] at h
    obtain ⟨l, rfl, k⟩ := h
    walk_at "w"
    refine ⟨S.cl_Listing, S.na_Listing_sendings, _, rfl, ?_⟩
    walk_at "f"
    rw [List.map_map, List.map_map]
    exact k
theorem ok_wished_names (S : En K mg) : FnOk P w K mg base (L2.CX P w) 5 S.f_wished_names S.d_wished_names ["book", "listing"] (lowF K (ctWNames ⟨S.C_Book, S.C_Rule, S.C_Listing, S.C_Sending⟩)) := by
  refine fn_low _ S.F_wished_names sc_wished_names (fun ss st ok ex h => ?_) ?_ (fun cdv A outer s H E hr tk po => (bone (sret (dlc [("name", 2)] sc_wished_names.nd (iT (dprop S.cl_Listing S.p_Listing_names (ok_Listing_names S) (hr.mono (by decide)) S.b_Listing_names (dv 1))) (blkOk_by (N := ["book", "listing", "name"]) (sc := defScope s_wished_names) (by decide +kernel)) (fun _ _ _ _ _ => (gwname 2 sc_wished_names.nd)) (fun _ _ _ _ _ => (tsone (tnotN (dcall (dds := []) (ok_rule_for S) (hr.mono (by decide)) S.g_rule_for S.F_rule_for.kp S.b_rule_for .nil (fun _ => .nil) takes0 (acons (dv 0) (acons (dget S.sg_Listing_getitem S.fi_Listing_getitem S.fn_Listing_getitem (ok_Listing_getitem S) (hr.mono (by decide)) S.b_Listing_getitem takes0 (dv 1) (dv 2)) anil)))))) (fun _ _ _ _ _ => (dv 2))))))
  · exact bl_len (m := 0) (fun _ => rfl) h
  · intro ss st ok ex h
    unfold ctWNames at h
    rw [ctBL_eq] at h
    obtain ⟨b, l, a, rfl, hb, hl, -, k⟩ := h
    walk_at "w"
    refine ⟨rfl, ?_⟩
    rw [ctNames_eq]
    refine ⟨l, rfl, ?_⟩
    walk_at "w"
    refine lc_pure l (fun x => .str x.1) (fun x => (ruleFor b x.2).map fun _ => .str x.1) (by rw [List.map_map]; rfl) ?_ ?_
    · intro i x D acc hx hD J
      have hm := List.mem_of_getElem? hx
      walk_at "w"
      refine ⟨rfl, ?_⟩
      rw [ctItem_eq]
      refine ⟨l, x.1, x.2, rfl, hl.get hm, ?_⟩
      walk_at "w"
      rw [ctRuleFor_eq]
      refine ⟨b, x.2, rfl, hb, (hl.ok _ hm).2, ?_⟩
      cases hr : ruleFor b x.2 with
      | none =>
        walk_at "ss"
        exact lc_no hx J (by rw [hr]; rfl)
      | some r =>
        walk_at "ss"
        exact lc_yes (Nat.le_trans hl.len (by decide)) hx J (by rw [hr]; rfl)
    · walk_at "f"
      rw [wnames_is]
      exact k
theorem ok_Rule_priority (S : En K mg) : FnOk P w K mg base (L2.CX P w) 1 S.f_Rule_priority S.d_Rule_priority ["self"] (lowF K (ctGet S.C_Rule "_priority")) := by
  refine fn_low _ S.F_Rule_priority sc_Rule_priority (fun ss st ok ex h => ?_) ?_ (fun cdv A outer s H E hr tk po => (bone (sret (dfld K (dv 0)))))
  · (repeat (first | (obtain ⟨rfl, _⟩ := h; rfl) | (obtain ⟨_, h⟩ := h)))
  · rintro ss st ok ex ⟨fs, d, rfl, hl, k⟩
    walk_at "w"
    refine ⟨S.cl_Rule, S.na_Rule_priority, d, hl, ?_⟩
    walk_at "f"
    exact k
theorem ok_Sending_begin (S : En K mg) : FnOk P w K mg base (L2.CX P w) 1 S.f_Sending_begin S.d_Sending_begin ["self"] (lowF K (ctGet S.C_Sending "_begin")) := by
  refine fn_low _ S.F_Sending_begin sc_Sending_begin (fun ss st ok ex h => ?_) ?_ (fun cdv A outer s H E hr tk po => (bone (sret (dfld K (dv 0)))))
  · (repeat (first | (obtain ⟨rfl, _⟩ := h; rfl) | (obtain ⟨_, h⟩ := h)))
  · rintro ss st ok ex ⟨fs, d, rfl, hl, k⟩
    walk_at "w"
    refine ⟨S.cl_Sending, S.na_Sending_begin, d, hl, ?_⟩
    walk_at "f"
    exact k
theorem ok_wishes (S : En K mg) : FnOk P w K mg base (L2.CX P w) 6 S.f_wishes S.d_wishes ["book", "listing"] (lowF K (ctWishes ⟨S.C_Book, S.C_Rule, S.C_Listing, S.C_Sending⟩)) := by
  refine fn_low _ S.F_wishes sc_wishes (fun ss st ok ex h => ?_) ?_ (fun cdv A outer s H E hr tk po => (bcons (sset 2 sc_wishes.nd (dlstO anil))
  (bcons (sfor po (iL (dcall (dds := []) (ok_wished_names S) (hr.mono (by decide)) S.g_wished_names S.F_wished_names.kp S.b_wished_names .nil (fun _ => .nil) tk (acons (dv 0) (acons (dv 1) anil)))) (gname 3 sc_wishes.nd)
   (bcons (sset 4 sc_wishes.nd (dget S.sg_Listing_getitem S.fi_Listing_getitem S.fn_Listing_getitem (ok_Listing_getitem S) (hr.mono (by decide)) S.b_Listing_getitem tk (dv 1) (dv 3)))
  (bone (sapp (dv 2) (dtup (acons (dneg (dprop S.cl_Rule S.p_Rule_priority (ok_Rule_priority S) (hr.mono (by decide)) S.b_Rule_priority (dcall (dds := []) (ok_rule_for S) (hr.mono (by decide)) S.g_rule_for S.F_rule_for.kp S.b_rule_for .nil (fun _ => .nil) tk (acons (dv 0) (acons (dv 4) anil))))) (acons (dprop S.cl_Sending S.p_Sending_begin (ok_Sending_begin S) (hr.mono (by decide)) S.b_Sending_begin (dv 4)) (acons (dcall (dds := []) (ok_episode_of S) (hr.mono (by decide)) S.g_episode_of S.F_episode_of.kp S.b_episode_of .nil (fun _ => .nil) tk (acons (dv 4) anil)) anil))))))))
  (bcons (sset 5 sc_wishes.nd (dlstO anil))
  (bcons (sfor po (iL (dcb (cr_sortP (hu65 hr)) lc_sortP S.n_sorted PyProof.Rows.boot_sorted (acons (dv 2) anil))) (gname 6 sc_wishes.nd)
   (bone (sif (tsNi hr (dix ix_tup lr_ixT (dv 6) di) (dv 5))
   (bone (sapp (dv 5) (dix ix_tup lr_ixT (dv 6) di))) bnil)))
  (bone (sret (dv 5))))))))
  · exact bl_len (m := 0) (fun _ => rfl) h
  · intro ss st ok ex h
    unfold ctWishes at h
    rw [ctBL_eq] at h
    obtain ⟨b, l, a, rfl, hb, hl, -, k⟩ := h
    walk_at "zz"
    intro p hp
    walk_at "w"
    refine bl_at () rfl hb hl trivial ?_
    walk_at "w"
    refine loop_fold (wished b l) (fun x => .str x.n) (fun s x => s ++ [x.row]) [] (fun rows Δ' st' => ∃ v3 v4, Δ' = [.dat (b.d ⟨S.C_Book, S.C_Rule, S.C_Listing, S.C_Sending⟩), .dat (lstD ⟨S.C_Book, S.C_Rule, S.C_Listing, S.C_Sending⟩ l), .own p, v3, v4, .un, .un] ∧ st' = (p, .lst (rows.map fun r => .dat (rowD r))) :: st) (by rw [List.map_map]; exact (List.map_map ..)) ⟨.un, .un, rfl, rfl⟩ ?_ ?_
    · rintro pre x post rows Δ' st' has hs ⟨v3, v4, rfl, rfl⟩
      have hm : x ∈ wished b l := by rw [has]; simp
      obtain ⟨hx1, hx2⟩ := wished_mem.mp hm
      walk_at "w"
      refine ⟨rfl, ?_⟩
      rw [ctItem_eq]
      refine ⟨l, x.n, x.s, rfl, hl.get hx1, ?_⟩
      walk_at "w"
      refine ⟨⟨0, _, rfl⟩, ?_⟩
      walk_at "w"
      rw [ctRuleFor_eq]
      refine ⟨b, x.s, rfl, hb, (hl.ok _ hx1).2, ?_⟩
      rw [hx2]
      walk_at "w"
      refine ⟨rfl, _, _, rfl, rfl, ?_⟩
      walk_at "w"
      refine ⟨rfl, _, _, rfl, rfl, ?_⟩
      walk_at "w"
      refine ⟨x.s, rfl, ?_⟩
      walk_at "zz"
      have hr : rows.length ≤ 10 := by
        have := wished_len (b := b) hl
        rw [has, List.length_append, List.length_cons] at this
        rw [hs, fold_snoc, List.nil_append, List.length_map]
        omega
      refine ⟨0, _, rfl, by rw [List.length_map]; exact Nat.lt_of_le_of_lt hr (by rw [sizeLine_eq]; decide), ?_⟩
      walk_at "w"
      refine ⟨_, _, rfl, ?_⟩
      rw [List.map_append]
      rfl
    · rintro Δ' st' ⟨v3, v4, rfl, rfl⟩
      rw [fold_snoc]
      walk_at "zz"
      intro q hq
      walk_at "w"
      refine ⟨1, _, rfl, SP.Row, (wished b l).map Wi.row, rowD, rowP, by rw [List.nil_append], row_of, row_alike _, row_sortable _, fun r _ => row_depth r, ?_⟩
      walk_at "w"
      refine loop_fold (sortedRows b l) rowD (fun acc r => if r.2.2 ∈ acc then acc else acc ++ [r.2.2]) [] (fun acc Δ' st' => ∃ v3 v4 v6, Δ' = [.dat (b.d ⟨S.C_Book, S.C_Rule, S.C_Listing, S.C_Sending⟩), .dat (lstD ⟨S.C_Book, S.C_Rule, S.C_Listing, S.C_Sending⟩ l), .own p, v3, v4, .own q, v6] ∧ st' = (q, .lst (acc.map fun r => .dat (epD r))) :: (p, .lst (((wished b l).map Wi.row).map fun r => .dat (rowD r))) :: st ∧ (∀ e ∈ acc, isWord e.1 = true)) (by rw [List.map_map]; rfl) ⟨_, _, _, rfl, rfl, fun e h => (by cases h)⟩ ?_ ?_
      · rintro pre r post acc Δ' st' has hs ⟨v3, v4, v6, rfl, rfl, hw⟩
        have hm : r ∈ sortedRows b l := by rw [has]; simp
        have hr := row_word hl hm
        walk_at "w"
        refine ⟨.dat (epD r.2.2), rfl, ?_⟩
        walk_at "w"
        refine ⟨0, _, acc.map epD, epP r.2.2, acc.map epP, rfl, allD_of _ _, ep_of _, eps_of _, ep_shaped _ hr, eps_lay _ hw, ?_⟩
        rw [ep_any]
        refine ⟨fun h => ?_, fun h => ?_⟩
        · have h' : ¬ r.2.2 ∈ acc := by simpa using h
          walk_at "w"
          refine ⟨⟨0, _, rfl⟩, ?_⟩
          walk_at "w"
          refine ⟨.dat (epD r.2.2), rfl, ?_⟩
          walk_at "w"
          have hn : acc.length ≤ 10 := by
            have h1 := dedup_len pre []
            rw [← hs] at h1
            have h2 := rows_len (b := b) hl
            rw [has, List.length_append] at h2
            simp at h1
            omega
          refine ⟨0, _, rfl, by rw [List.length_map]; exact Nat.lt_of_le_of_lt hn (by rw [sizeLine_eq]; decide), ?_⟩
          walk_at "w"
          rw [if_neg h']
          refine ⟨_, _, _, rfl, by rw [List.map_append]; rfl, fun e he => ?_⟩
          rcases List.mem_append.mp he with he | he
          · exact hw e he
          · rw [List.mem_singleton.mp he]; exact hr
        · have h' : r.2.2 ∈ acc := by simpa using h
          walk_at "w"
          rw [if_pos h']
          exact ⟨_, _, _, rfl, rfl, hw⟩
      · rintro Δ' st' ⟨v3, v4, v6, rfl, rfl, hw⟩
        rw [wishes_fold]
        walk_at "w"
        refine ⟨.dat (.lst ((wishes b l).map epD)), st, .pub (j := 0) rfl (by rw [show (fun r : Ep => Sv.dat (epD r)) = Sv.dat ∘ epD from rfl, ← List.map_map]; exact .lst (.map _)) ?_ (.cons _ (.cons _ (List.Sublist.refl _))), k⟩
        intro z
        exact hq (List.mem_cons_of_mem _ z)
theorem ok_sendings_of (S : En K mg) : FnOk P w K mg base (L2.CX P w) 6 S.f_sendings_of S.d_sendings_of ["book", "listing", "episode"] (lowF K (ctSends ⟨S.C_Book, S.C_Rule, S.C_Listing, S.C_Sending⟩)) := by
  refine fn_low _ S.F_sendings_of sc_sendings_of (fun ss st ok ex h => ?_) ?_ (fun cdv A outer s H E hr tk po => (bcons (sset 3 sc_sendings_of.nd (dlstO anil))
  (bcons (sfor po (iL (dcall (dds := []) (ok_wished_names S) (hr.mono (by decide)) S.g_wished_names S.F_wished_names.kp S.b_wished_names .nil (fun _ => .nil) tk (acons (dv 0) (acons (dv 1) anil)))) (gname 4 sc_sendings_of.nd)
   (bone (sif (tcmp (op_eqD (hu64 hr)) lr_eqP (dcall (dds := []) (ok_episode_of S) (hr.mono (by decide)) S.g_episode_of S.F_episode_of.kp S.b_episode_of .nil (fun _ => .nil) tk (acons (dget S.sg_Listing_getitem S.fi_Listing_getitem S.fn_Listing_getitem (ok_Listing_getitem S) (hr.mono (by decide)) S.b_Listing_getitem tk (dv 1) (dv 4)) anil)) (dv 2) (nomark _))
   (bone (sapp (dv 3) (dtup (acons (dprop S.cl_Sending S.p_Sending_begin (ok_Sending_begin S) (hr.mono (by decide)) S.b_Sending_begin (dget S.sg_Listing_getitem S.fi_Listing_getitem S.fn_Listing_getitem (ok_Listing_getitem S) (hr.mono (by decide)) S.b_Listing_getitem tk (dv 1) (dv 4))) (acons (dv 4) anil))))) bnil)))
  (bcons (sif (tnot (ttruL (dv 3)))
   (bone (sraise0 PySem.F.excBase_ValueError S.x_UnknownEpisode S.g_UnknownEpisode S.kc_UnknownEpisode (raises_own S.r_UnknownEpisode S.ty_UnknownEpisode) tk)) bnil)
  (bone (sret (dlc [("row", 5)] sc_sendings_of.nd (iL (dcb (cr_sortP (hu65 hr)) lc_sortP S.n_sorted PyProof.Rows.boot_sorted (acons (dv 3) anil))) (blkOk_by (N := ["book", "listing", "episode", "rows", "name", "row"]) (sc := defScope s_sendings_of) (by decide +kernel)) (fun _ _ _ _ _ => (gwname 5 sc_sendings_of.nd)) (fun _ _ _ _ _ => tsnil) (fun _ _ _ _ _ => (dix ix_tup lr_ixT (dv 5) di)))))))))
  · exact bl_len (m := 1) (fun _ => rfl) h
  · intro ss st ok ex h
    unfold ctSends at h
    rw [ctBL_eq] at h
    obtain ⟨b, l, e, rfl, hb, hl, ⟨x0, hx0, he0⟩, k⟩ := h
    have hew : isWord e.1 = true := by rw [← he0]; exact (hl.ok _ (wished_mem.mp hx0).1).2.sh
    walk_at "zz"
    intro p hp
    walk_at "w"
    refine bl_at () rfl hb hl trivial ?_
    walk_at "w"
    refine loop_fold (wished b l) (fun x => .str x.n) (fun s x => if decide (x.s.ep = e) = true then s ++ [x.bn] else s) [] (fun rows Δ' st' => ∃ v4 v5, Δ' = [.dat (b.d ⟨S.C_Book, S.C_Rule, S.C_Listing, S.C_Sending⟩), .dat (lstD ⟨S.C_Book, S.C_Rule, S.C_Listing, S.C_Sending⟩ l), .dat (epD e), .own p, v4, v5] ∧ st' = (p, .lst (rows.map fun r => .dat (bnD r))) :: st) (by rw [List.map_map]; exact (List.map_map ..)) ⟨.un, .un, rfl, rfl⟩ ?_ ?_
    · rintro pre x post rows Δ' st' has hs ⟨v3, v4, rfl, rfl⟩
      have hm : x ∈ wished b l := by rw [has]; simp
      obtain ⟨hx1, hx2⟩ := wished_mem.mp hm
      walk_at "w"
      refine ⟨rfl, ?_⟩
      rw [ctItem_eq]
      refine ⟨l, x.n, x.s, rfl, hl.get hx1, ?_⟩
      walk_at "w"
      refine ⟨x.s, rfl, ?_⟩
      walk_at "w"
      refine ⟨_, _, ep_of _, ep_of _, ep_shaped _ (hl.ok _ hx1).2.sh, ep_shaped _ hew, ?_⟩
      rw [ep_eqv]
      refine ⟨fun h => ?_, fun h => ?_⟩
      · walk_at "w"
        refine ⟨⟨0, _, rfl⟩, ?_⟩
        walk_at "w"
        refine ⟨rfl, ?_⟩
        rw [ctItem_eq]
        refine ⟨l, x.n, x.s, rfl, hl.get hx1, ?_⟩
        walk_at "w"
        refine ⟨rfl, _, _, rfl, rfl, ?_⟩
        walk_at "zz"
        have hr : rows.length ≤ 10 := by
          rw [hs, fold_filter, List.nil_append, List.length_map]
          have h1 := List.length_filter_le (fun x : Wi => decide (x.s.ep = e)) pre
          have h2 := wished_len (b := b) hl
          rw [has, List.length_append] at h2
          omega
        refine ⟨0, _, rfl, by rw [List.length_map]; exact Nat.lt_of_le_of_lt hr (by rw [sizeLine_eq]; decide), ?_⟩
        walk_at "w"
        rw [if_pos (show decide (x.s.ep = e) = true from h)]
        exact ⟨_, _, rfl, by rw [List.map_append]; rfl⟩
      · walk_at "w"
        rw [if_neg (show ¬ decide (x.s.ep = e) = true by rw [show decide (x.s.ep = e) = false from h]; decide)]
        exact ⟨_, _, rfl, rfl⟩
    · rintro Δ' st' ⟨v4, v5, rfl, rfl⟩
      rw [fold_filter, List.nil_append]
      have hne : (bnRaw b l e).isEmpty = false := by
        cases h : bnRaw b l e with
        | nil => exact absurd h (bn_pos hx0 he0)
        | cons => rfl
      walk_at "w"
      refine ⟨0, _, rfl, ?_⟩
      have he : (((((wished b l).filter fun x => decide (x.s.ep = e)).map Wi.bn)).map fun r => Sv.dat (bnD r)).isEmpty = false := by
        rw [List.isEmpty_map]
        exact hne
      walk_at "w"
      refine ⟨fun h => absurd h (by rw [he]; decide), fun _ => ?_⟩
      walk_at "w"
      refine ⟨0, _, rfl, SP.Bn, bnRaw b l e, bnD, bnP, rfl, bn_of, bn_alike _, bn_sortable _, fun r _ => bn_depth r, ?_⟩
      walk_at "w"
      refine lc_pure (bnOf b l e) bnD (fun r => some (.str r.2)) (by rw [List.map_map]; rfl) ?_ ?_
      · intro i r D acc hx hD J
        walk_at "ss"
        refine ⟨.dat (.str r.2), rfl, ?_⟩
        exact lc_yes (by rw [(bn_perm b l e).length_eq]; exact Nat.le_trans (bn_len hl e) (by decide)) hx J rfl
      · walk_at "w"
        refine ⟨_, st, .keep (.cons _ (List.Sublist.refl _)), ?_⟩
        rw [fm_some]
        unfold namesD sendsOf at k
        rw [List.map_map] at k
        exact k
theorem ok_Rule_before (S : En K mg) : FnOk P w K mg base (L2.CX P w) 1 S.f_Rule_before S.d_Rule_before ["self"] (lowF K (ctGet S.C_Rule "_before")) := by
  refine fn_low _ S.F_Rule_before sc_Rule_before (fun ss st ok ex h => ?_) ?_ (fun cdv A outer s H E hr tk po => (bone (sret (dfld K (dv 0)))))
  · (repeat (first | (obtain ⟨rfl, _⟩ := h; rfl) | (obtain ⟨_, h⟩ := h)))
  · rintro ss st ok ex ⟨fs, d, rfl, hl, k⟩
    walk_at "w"
    refine ⟨S.cl_Rule, S.na_Rule_before, d, hl, ?_⟩
    walk_at "f"
    exact k
theorem ok_Rule_after (S : En K mg) : FnOk P w K mg base (L2.CX P w) 1 S.f_Rule_after S.d_Rule_after ["self"] (lowF K (ctGet S.C_Rule "_after")) := by
  refine fn_low _ S.F_Rule_after sc_Rule_after (fun ss st ok ex h => ?_) ?_ (fun cdv A outer s H E hr tk po => (bone (sret (dfld K (dv 0)))))
  · (repeat (first | (obtain ⟨rfl, _⟩ := h; rfl) | (obtain ⟨_, h⟩ := h)))
  · rintro ss st ok ex ⟨fs, d, rfl, hl, k⟩
    walk_at "w"
    refine ⟨S.cl_Rule, S.na_Rule_after, d, hl, ?_⟩
    walk_at "f"
    exact k
theorem ok_Sending_end (S : En K mg) : FnOk P w K mg base (L2.CX P w) 1 S.f_Sending_end S.d_Sending_end ["self"] (lowF K (ctGet S.C_Sending "_end")) := by
  refine fn_low _ S.F_Sending_end sc_Sending_end (fun ss st ok ex h => ?_) ?_ (fun cdv A outer s H E hr tk po => (bone (sret (dfld K (dv 0)))))
  · (repeat (first | (obtain ⟨rfl, _⟩ := h; rfl) | (obtain ⟨_, h⟩ := h)))
  · rintro ss st ok ex ⟨fs, d, rfl, hl, k⟩
    walk_at "w"
    refine ⟨S.cl_Sending, S.na_Sending_end, d, hl, ?_⟩
    walk_at "f"
    exact k
theorem ok_window (S : En K mg) : FnOk P w K mg base (L2.CX P w) 5 S.f_window S.d_window ["book", "listing", "name"] (lowF K (ctWindow ⟨S.C_Book, S.C_Rule, S.C_Listing, S.C_Sending⟩)) := by
  refine fn_low _ S.F_window sc_window (fun ss st ok ex h => ?_) ?_ (fun cdv A outer s H E hr tk po => (bcons (sset 3 sc_window.nd (dget S.sg_Listing_getitem S.fi_Listing_getitem S.fn_Listing_getitem (ok_Listing_getitem S) (hr.mono (by decide)) S.b_Listing_getitem tk (dv 1) (dv 2)))
  (bcons (sset 4 sc_window.nd (dcall (dds := []) (ok_rule_for S) (hr.mono (by decide)) S.g_rule_for S.F_rule_for.kp S.b_rule_for .nil (fun _ => .nil) tk (acons (dv 0) (acons (dv 3) anil))))
  (bcons (sif (tisN (dv 4))
   (bone (sraise0 PySem.F.excBase_ValueError S.x_NotWished S.g_NotWished S.kc_NotWished (raises_own S.r_NotWished S.ty_NotWished) tk)) bnil)
  (bone (sret (dtup (acons (dcb (call_max2 rfl) lc_max2 S.n_max PyProof.Rows.boot_max (acons di (acons (dop op_sub lr_sub (dprop S.cl_Sending S.p_Sending_begin (ok_Sending_begin S) (hr.mono (by decide)) S.b_Sending_begin (dv 3)) (dprop S.cl_Rule S.p_Rule_before (ok_Rule_before S) (hr.mono (by decide)) S.b_Rule_before (dv 4))) anil))) (acons (dop op_add lr_add (dprop S.cl_Sending S.p_Sending_end (ok_Sending_end S) (hr.mono (by decide)) S.b_Sending_end (dv 3)) (dprop S.cl_Rule S.p_Rule_after (ok_Rule_after S) (hr.mono (by decide)) S.b_Rule_after (dv 4))) anil)))))))))
  · exact bl_len (m := 1) (fun _ => rfl) h
  · intro ss st ok ex h
    unfold ctWindow at h
    rw [ctBL_eq] at h
    obtain ⟨b, l, x, rfl, hb, hl, hx, k⟩ := h
    obtain ⟨hx1, hx2⟩ := wished_mem.mp hx
    walk_at "w"
    refine ⟨rfl, ?_⟩
    rw [ctItem_eq]
    refine ⟨l, x.n, x.s, rfl, hl.get hx1, ?_⟩
    walk_at "w"
    rw [ctRuleFor_eq]
    refine ⟨b, x.s, rfl, hb, (hl.ok _ hx1).2, ?_⟩
    rw [hx2]
    walk_at "dd"
    walk_at "w"
    refine ⟨rfl, _, _, rfl, rfl, ?_⟩
    walk_at "w"
    refine ⟨rfl, _, _, rfl, rfl, ?_⟩
    walk_at "w"
    refine ⟨rfl, _, _, rfl, rfl, ?_⟩
    walk_at "w"
    refine ⟨rfl, _, _, rfl, rfl, ?_⟩
    walk_at "zz"
    walk_at "f"
    exact k
theorem ok_wished_windows (S : En K mg) : FnOk P w K mg base (L2.CX P w) 6 S.f_wished_windows S.d_wished_windows ["book", "listing"] (lowF K (ctWindows ⟨S.C_Book, S.C_Rule, S.C_Listing, S.C_Sending⟩)) := by
  refine fn_low _ S.F_wished_windows sc_wished_windows (fun ss st ok ex h => ?_) ?_ (fun cdv A outer s H E hr tk po => (bone (sret (ddc [("name", 2)] sc_wished_windows.nd (iL (dcall (dds := []) (ok_wished_names S) (hr.mono (by decide)) S.g_wished_names S.F_wished_names.kp S.b_wished_names .nil (fun _ => .nil) tk (acons (dv 0) (acons (dv 1) anil)))) (blkOk_by (N := ["book", "listing", "name"]) (sc := defScope s_wished_windows) (by decide +kernel)) (fun _ _ _ _ _ => (gwname 2 sc_wished_windows.nd)) (fun _ _ _ _ _ => tsnil) (fun _ _ _ _ _ => (dv 2)) (fun _ _ _ _ _ => (dcall (dds := []) (ok_window S) (hr.mono (by decide)) S.g_window S.F_window.kp S.b_window .nil (fun _ => .nil) takes0 (acons (dv 0) (acons (dv 1) (acons (dv 2) anil)))))))))
  · exact bl_len (m := 0) (fun _ => rfl) h
  · intro ss st ok ex h
    unfold ctWindows at h
    rw [ctBL_eq] at h
    obtain ⟨b, l, a, rfl, hb, hl, -, k⟩ := h
    walk_at "w"
    refine bl_at () rfl hb hl trivial ?_
    walk_at "w"
    refine dc_pure (wished b l) (fun x => .str x.n) (fun x => some (.inr x.n, winD x.win)) (by rw [List.map_map]; exact (List.map_map ..)) ?_ ?_
    · intro i x D acc hx hD J
      have hm := List.mem_of_getElem? hx
      walk_at "ss"
      refine bl_at x rfl hb hl hm ?_
      exact dc_yes (Nat.le_trans (wished_len hl) (by decide)) (windows_nd hl) hx J rfl rfl
    · walk_at "f"
      rw [windows_is]
      exact k
theorem ok_windows_overlap (S : En K mg) : FnOk P w K mg base (L2.CX P w) 1 S.f_windows_overlap S.d_windows_overlap ["one", "other"] (lowF K ctOver) := by
  refine fn_low _ S.F_windows_overlap sc_windows_overlap (fun ss st ok ex h => ?_) ?_ (fun cdv A outer s H E hr tk po => (bone (sret (dand (dcmp op_lt lr_lt (dix ix_tup lr_ixT (dv 0) di) (dix ix_tup lr_ixT (dv 1) di) (nomark _)) (done (dcmp op_lt lr_lt (dix ix_tup lr_ixT (dv 1) di) (dix ix_tup lr_ixT (dv 0) di) (nomark _)))))))
  · (repeat (first | (obtain ⟨rfl, _⟩ := h; rfl) | (obtain ⟨_, h⟩ := h)))
  · rintro ss st ok ex ⟨a, b, rfl, k⟩
    walk_at "zz"
    refine ⟨_, rfl, ?_⟩
    walk_at "zz"
    refine ⟨_, rfl, ?_⟩
    walk_at "w"
    unfold overlap at k
    refine ⟨fun h => ?_, fun h => ?_⟩
    · walk_at "zz"
      refine ⟨_, rfl, ?_⟩
      walk_at "zz"
      refine ⟨_, rfl, ?_⟩
      walk_at "f"
      rw [show decide (a.1 < b.2) = true from h, Bool.true_and] at k
      exact k
    · walk_at "f"
      rw [show decide (a.1 < b.2) = false from h, Bool.false_and] at k
      exact k
theorem ok_ascending (S : En K mg) : FnOk P w K mg base (L2.CX P w) 1 S.f_ascending S.d_ascending ["plan"] (lowF K ctAsc) := by
  refine fn_low _ S.F_ascending sc_ascending (fun ss st ok ex h => ?_) ?_ (fun cdv A outer s H E hr tk po => (bone (sret (ddc [("name", 1)] sc_ascending.nd (iL (dcb (call_sortedD rfl) lc_sortK S.n_sorted PyProof.Rows.boot_sorted (acons (dv 0) anil))) (blkOk_by (N := ["plan", "name"]) (sc := defScope s_ascending) (by decide +kernel)) (fun _ _ _ _ _ => (gwname 1 sc_ascending.nd)) (fun _ _ _ _ _ => tsnil) (fun _ _ _ _ _ => (dv 1)) (fun _ _ _ _ _ => (ddget (hu1 hr) (dv 0) (dv 1)))))))
  · rw [ctAsc_eq] at h; obtain ⟨_, rfl, _⟩ := h; rfl
  · intro ss st ok ex h
    rw [ctAsc_eq] at h
    obtain ⟨p, rfl, hp, k⟩ := h
    walk_at "w"
    refine ⟨p.map (·.1), by rw [List.map_map, List.map_map, List.map_map]; rfl, by rw [List.length_map]; exact Nat.lt_of_le_of_lt hp.len (by decide), fun ys hy hs => ?_⟩
    obtain rfl := sorted_is hy hs
    walk_at "w"
    refine dc_pure (sortN (p.map (·.1))) (fun n => .str n) (fun n => some (.inr n, .int ((look p n).getD 0))) (by rw [List.map_map]; rfl) ?_ ?_
    · intro i n D acc hx hD J
      have hm := (sortN_perm _).mem_iff.mp (List.mem_of_getElem? hx)
      obtain ⟨v, hv⟩ := look_is hm
      walk_at "ss"
      refine ⟨.inr n, .dat (.int v), rfl, ?_, ?_⟩
      · have e := getD_dic Dt.int p n
        rw [hv] at e
        exact e
      · exact dc_yes (by rw [(sortN_perm _).length_eq, List.length_map]; exact Nat.le_trans hp.len (by decide)) (asc_nd hp.nd) hx J (by rw [hv]; rfl) rfl
    · walk_at "f"
      rw [asc_is]
      exact k
theorem ok_on_receiver (S : En K mg) : FnOk P w K mg base (L2.CX P w) 2 S.f_on_receiver S.d_on_receiver ["windows", "plan", "receiver", "span"] (lowF K ctOnRec) := by
  refine fn_low _ S.F_on_receiver sc_on_receiver (fun ss st ok ex h => ?_) ?_ (fun cdv A outer s H E hr tk po => (bcons (ssetLc 4 [("other", 5)] sc_on_receiver.nd (iL (dcb (call_sortedD rfl) lc_sortK S.n_sorted PyProof.Rows.boot_sorted (acons (dv 1) anil))) (blkOk_by (N := ["windows", "plan", "receiver", "span", "recordings", "other"]) (sc := defScope s_on_receiver) (by decide +kernel)) (fun _ _ _ _ _ => (gwname 5 sc_on_receiver.nd)) (fun _ _ _ _ _ => (tsone (tcmp op_eq lr_eqS (ddget (hu1 hr) (dv 1) (dv 5)) (dv 2) (nomark _)))) (fun _ _ _ _ _ => (dv 5)))
  (bone (sret (dlc [("other", 5)] sc_on_receiver.nd (iL (dv 4)) (blkOk_by (N := ["windows", "plan", "receiver", "span", "recordings", "other"]) (sc := defScope s_on_receiver) (by decide +kernel)) (fun _ _ _ _ _ => (gwname 5 sc_on_receiver.nd)) (fun _ _ _ _ _ => (tsone (tval (dcall (dds := []) (ok_windows_overlap S) (hr.mono (by decide)) S.g_windows_overlap S.F_windows_overlap.kp S.b_windows_overlap .nil (fun _ => .nil) takes0 (acons (ddget (hu1 hr) (dv 0) (dv 5)) (acons (dv 3) anil)))))) (fun _ _ _ _ _ => (dv 5)))))))
  · rw [ctOnRec_eq] at h; obtain ⟨_, _, _, _, ⟨_, rfl, _⟩, _⟩ := h; rfl
  · intro ss st ok ex h
    rw [ctOnRec_eq] at h
    obtain ⟨ws, p, r, w, ⟨dp, rfl, hd⟩, hp, hw, k⟩ := h
    have hl10 : (sortN (p.map (·.1))).length ≤ 10 := by rw [(sortN_perm _).length_eq, List.length_map]; exact hp.len
    rcases hd with rfl | ⟨q, j, rfl, hj⟩
    · walk_at "w"
      refine ⟨p.map (·.1), by rw [List.map_map, List.map_map, List.map_map]; rfl, by rw [List.length_map]; exact Nat.lt_of_le_of_lt hp.len (by decide), fun ys hy hs => ?_⟩
      obtain rfl := sorted_is hy hs
      walk_at "w"
      refine lc_pure (sortN (p.map (·.1))) (fun n => .str n) (fun o => if decide (look p o = some r) = true then some (.str o) else none) (by rw [List.map_map]; rfl) ?_ ?_
      · intro i o D acc hx hD J
        have hm := (sortN_perm _).mem_iff.mp (List.mem_of_getElem? hx)
        obtain ⟨v, hv⟩ := look_is hm
        walk_at "w"
        refine ⟨.inr o, .dat (.int v), rfl, by rw [getD_dic Dt.int p o, hv]; rfl, ?_⟩
        walk_at "w"
        refine ⟨fun h => ?_, fun h => ?_⟩
        · have h' : look p o = some r := by rw [hv]; exact congrArg some (of_decide_eq_true h)
          walk_at "w"
          exact lc_yes (Nat.le_trans hl10 (by decide)) hx J (by rw [if_pos (decide_eq_true h')])
        · have h' : ¬ look p o = some r := by rw [hv]; exact fun z => of_decide_eq_false h (Option.some.inj z)
          walk_at "w"
          exact lc_no hx J (by rw [decide_eq_false h']; rfl)
      · rw [fm_if]
        walk_at "w"
        refine lc_pure ((sortN (p.map (·.1))).filter fun o => decide (look p o = some r)) (fun n => .str n) (fun o => if overlap (winOf ws o) w = true then some (.str o) else none) (by rw [List.map_map]; rfl) ?_ ?_
        · intro i o D acc hx hD J
          have hm := (sortN_perm _).mem_iff.mp (List.mem_filter.mp (List.mem_of_getElem? hx)).1
          obtain ⟨x, hxp, hxo⟩ := List.mem_map.mp hm
          obtain ⟨v, hv⟩ := Option.isSome_iff_exists.mp (hw x hxp)
          rw [hxo] at hv
          have hvo : winOf ws o = v := by unfold winOf; rw [hv]; rfl
          walk_at "w"
          refine ⟨.inr o, .dat (winD v), rfl, by rw [getD_dic winD ws o, hv]; rfl, ?_⟩
          walk_at "w"
          refine ⟨v, w, rfl, ?_⟩
          walk_at "w"
          refine ⟨fun h => ?_, fun h => ?_⟩
          · walk_at "w"
            exact lc_yes (Nat.le_trans (Nat.le_trans (List.length_filter_le _ _) hl10) (by decide)) hx J (by rw [hvo, if_pos h])
          · walk_at "w"
            exact lc_no hx J (by rw [hvo, h]; rfl)
        · rw [fm_if]
          walk_at "f"
          exact k
    · walk_at "w"
      refine ⟨j, _, hj, ?_⟩
      refine ⟨p.map (·.1), by rw [List.map_map, List.map_map]; rfl, by rw [List.length_map]; exact Nat.lt_of_le_of_lt hp.len (by decide), fun ys hy hs => ?_⟩
      obtain rfl := sorted_is hy hs
      walk_at "w"
      refine lc_pure (sortN (p.map (·.1))) (fun n => .str n) (fun o => if decide (look p o = some r) = true then some (.str o) else none) (by rw [List.map_map]; rfl) ?_ ?_
      · intro i o D acc hx hD J
        have hm := (sortN_perm _).mem_iff.mp (List.mem_of_getElem? hx)
        obtain ⟨v, hv⟩ := look_is hm
        walk_at "w"
        refine ⟨j + 1, _, hj, .inr o, .dat (.int v), rfl, by rw [getD_own dI p o, hv]; rfl, ?_⟩
        walk_at "w"
        refine ⟨fun h => ?_, fun h => ?_⟩
        · have h' : look p o = some r := by rw [hv]; exact congrArg some (of_decide_eq_true h)
          walk_at "w"
          exact lc_yes (Nat.le_trans hl10 (by decide)) hx J (by rw [if_pos (decide_eq_true h')])
        · have h' : ¬ look p o = some r := by rw [hv]; exact fun z => of_decide_eq_false h (Option.some.inj z)
          walk_at "w"
          exact lc_no hx J (by rw [decide_eq_false h']; rfl)
      · rw [fm_if]
        walk_at "w"
        refine lc_pure ((sortN (p.map (·.1))).filter fun o => decide (look p o = some r)) (fun n => .str n) (fun o => if overlap (winOf ws o) w = true then some (.str o) else none) (by rw [List.map_map]; rfl) ?_ ?_
        · intro i o D acc hx hD J
          have hm := (sortN_perm _).mem_iff.mp (List.mem_filter.mp (List.mem_of_getElem? hx)).1
          obtain ⟨x, hxp, hxo⟩ := List.mem_map.mp hm
          obtain ⟨v, hv⟩ := Option.isSome_iff_exists.mp (hw x hxp)
          rw [hxo] at hv
          have hvo : winOf ws o = v := by unfold winOf; rw [hv]; rfl
          walk_at "w"
          refine ⟨.inr o, .dat (winD v), rfl, by rw [getD_dic winD ws o, hv]; rfl, ?_⟩
          walk_at "w"
          refine ⟨v, w, rfl, ?_⟩
          walk_at "w"
          refine ⟨fun h => ?_, fun h => ?_⟩
          · walk_at "w"
            exact lc_yes (Nat.le_trans (Nat.le_trans (List.length_filter_le _ _) hl10) (by decide)) hx J (by rw [hvo, if_pos h])
          · walk_at "w"
            exact lc_no hx J (by rw [hvo, h]; rfl)
        · rw [fm_if]
          walk_at "f"
          exact k
theorem ok_least_free (S : En K mg) : FnOk P w K mg base (L2.CX P w) 3 S.f_least_free S.d_least_free ["windows", "plan", "span"] (lowF K ctLeast) := by
  refine fn_low _ S.F_least_free sc_least_free (fun ss st ok ex h => ?_) ?_ (fun cdv A outer s H E hr tk po => (bcons (sset 3 sc_least_free.nd di)
  (bcons (swhile po (ttruL (dcall (dds := []) (ok_on_receiver S) (hr.mono (by decide)) S.g_on_receiver S.F_on_receiver.kp S.b_on_receiver .nil (fun _ => .nil) tk (acons (dv 0) (acons (dv 1) (acons (dv 3) (acons (dv 2) anil))))))
   (bone (sset 3 sc_least_free.nd (dop op_add lr_add (dv 3) di))))
  (bone (sret (dv 3))))))
  · rw [ctLeast_eq] at h; obtain ⟨_, _, _, _, ⟨_, rfl, _⟩, _⟩ := h; rfl
  · intro ss st ok ex h
    rw [ctLeast_eq] at h
    obtain ⟨ws, p, w, k0, ⟨dp, rfl, hd⟩, hp, hw, hr, k⟩ := h
    have hdp : dp ≠ .un := by rcases hd with rfl | ⟨q, j, rfl, hj⟩ <;> exact fun z => by cases z
    walk_at "w"
    rw [whileD_eq]
    refine ⟨fun m Δ' st' => ∃ r : Nat, m + r = k0 ∧ (∀ r' : Nat, r' < r → onRecW ws p (r' : Int) w ≠ []) ∧ Δ' = [.dat (dicD winD ws), dp, .dat (winD w), dI (r : Int)] ∧ st' = st, ⟨k0, 0, rfl, fun r' h => absurd h (Nat.not_lt_zero _), rfl, rfl⟩, ?_⟩
    rintro m Δ' st' ⟨r, hm, hb, rfl, rfl⟩
    have hcall : ∀ okk exx, okk (.dat (namesD (onRecW ws p (r : Int) w))) st' → ctOnRec [.dat (dicD winD ws), dp, dI (r : Int), .dat (winD w)] st' okk exx := fun okk exx hk => by
      rw [ctOnRec_eq]
      exact ⟨ws, p, r, w, ⟨dp, rfl, hd⟩, hp, hw, hk⟩
    have hend : onRecW ws p (r : Int) w = [] → ∃ s' st'', Fin (dI (r : Int)) st' s' st'' ∧ ok s' st'' := fun h => ⟨_, _, .keep (List.Sublist.refl _), k r (by omega) hb h⟩
    have hgo : onRecW ws p (r : Int) w ≠ [] → r < k0 := fun h => by
      rcases Nat.lt_or_ge r k0 with h1 | h1
      · exact h1
      · exact absurd (on_out fun x hx => by have := hr x hx; omega) h
    rcases hd with rfl | ⟨q, j, rfl, hj⟩
    · walk_at "w"
      refine hcall _ _ ?_
      walk_at "w"
      refine ⟨fun h => ?_, fun h => ?_⟩
      · have hne : onRecW ws p (r : Int) w ≠ [] := fun z => by rw [z] at h; cases h
        have hlt := hgo hne
        walk_at "w"
        refine ⟨m - 1, by omega, r + 1, by omega, fun r' hr' => ?_, rfl, rfl⟩
        rcases Nat.lt_or_ge r' r with h1 | h1
        · exact hb r' h1
        · rw [show r' = r by omega]; exact hne
      · have he : onRecW ws p (r : Int) w = [] := by
          cases z : onRecW ws p (r : Int) w with
          | nil => rfl
          | cons a as => rw [z] at h; cases h
        walk_at "w"
        exact hend he
    · walk_at "w"
      refine hcall _ _ ?_
      walk_at "w"
      refine ⟨fun h => ?_, fun h => ?_⟩
      · have hne : onRecW ws p (r : Int) w ≠ [] := fun z => by rw [z] at h; cases h
        have hlt := hgo hne
        walk_at "w"
        refine ⟨m - 1, by omega, r + 1, by omega, fun r' hr' => ?_, rfl, rfl⟩
        rcases Nat.lt_or_ge r' r with h1 | h1
        · exact hb r' h1
        · rw [show r' = r by omega]; exact hne
      · have he : onRecW ws p (r : Int) w = [] := by
          cases z : onRecW ws p (r : Int) w with
          | nil => rfl
          | cons a as => rw [z] at h; cases h
        walk_at "w"
        exact hend he
theorem ok_taken_up (S : En K mg) : FnOk P w K mg base (L2.CX P w) 7 S.f_taken_up S.d_taken_up ["book", "listing", "receivers"] (lowF K (ctTaken ⟨S.C_Book, S.C_Rule, S.C_Listing, S.C_Sending⟩)) := by
  refine fn_low _ S.F_taken_up sc_taken_up (fun ss st ok ex h => ?_) ?_ (fun cdv A outer s H E hr tk po => (bcons (sset 3 sc_taken_up.nd (dcall (dds := []) (ok_wished_windows S) (hr.mono (by decide)) S.g_wished_windows S.F_wished_windows.kp S.b_wished_windows .nil (fun _ => .nil) tk (acons (dv 0) (acons (dv 1) anil))))
  (bcons (sset 4 sc_taken_up.nd ddnew)
  (bcons (sfor po (iL (dcall (dds := []) (ok_wishes S) (hr.mono (by decide)) S.g_wishes S.F_wishes.kp S.b_wishes .nil (fun _ => .nil) tk (acons (dv 0) (acons (dv 1) anil)))) (gname 5 sc_taken_up.nd)
   (bone (sfor po (iL (dcall (dds := []) (ok_sendings_of S) (hr.mono (by decide)) S.g_sendings_of S.F_sendings_of.kp S.b_sendings_of .nil (fun _ => .nil) tk (acons (dv 0) (acons (dv 1) (acons (dv 5) anil))))) (gname 6 sc_taken_up.nd)
   (bcons (sset 7 sc_taken_up.nd (dcall (dds := []) (ok_least_free S) (hr.mono (by decide)) S.g_least_free S.F_least_free.kp S.b_least_free .nil (fun _ => .nil) tk (acons (dv 3) (acons (dv 4) (acons (ddget (hu1 hr) (dv 3) (dv 6)) anil)))))
  (bone (sif (tcmp op_lt lr_lt (dv 7) (dv 2) (nomark _))
   (bcons (sdput (hu1 hr) (dv 7) (dv 4) (dv 6))
  (bone sbreak)) bnil))))))
  (bone (sret (dv 4)))))))
  · exact bl_len (m := 1) (fun _ => rfl) h
  · intro ss st ok ex h
    unfold ctTaken at h
    rw [ctBL_eq] at h
    obtain ⟨b, l, k0, rfl, hb, hl, hk0, k⟩ := h
    walk_at "w"
    refine bl_at () rfl hb hl trivial ?_
    walk_at "w"
    intro p hp
    walk_at "w"
    refine bl_at () rfl hb hl trivial ?_
    walk_at "w"
    refine loop_fold (wishes b l) epD (takeStep b l k0) [] (fun pl Δ' st' => ∃ v5 v6 v7, Δ' = [.dat (b.d ⟨S.C_Book, S.C_Rule, S.C_Listing, S.C_Sending⟩), .dat (lstD ⟨S.C_Book, S.C_Rule, S.C_Listing, S.C_Sending⟩ l), dI (k0 : Int), .dat (dicD winD (windows b l)), .own p, v5, v6, v7] ∧ st' = (p, .dic (pl.map fun x => ((Sum.inr x.1 : Key), dI x.2))) :: st) (by rw [List.map_map]; rfl) ⟨.un, .un, .un, rfl, rfl⟩ ?_ ?_
    · rintro pre e post pl Δ' st' has hs ⟨v5, v6, v7, rfl, rfl⟩
      obtain ⟨inv, hne⟩ := pinv_pre hl k0 has
      rw [← hs] at inv
      have hpl : pre.length ≤ 10 := by
        have := wishes_len (b := b) hl
        rw [has, List.length_append] at this
        omega
      obtain ⟨pok, pws⟩ := inv.ok hl hpl
      have hme : e ∈ wishes b l := by rw [has]; simp
      walk_at "w"
      refine bl_at e rfl hb hl (wishes_mem.mp hme) ?_
      walk_at "w"
      refine loop_find (sendsOf b l e) (fun n => .str n) (fun n => (freeAt (windows b l) pl k0 n).isSome) (fun Δ' st' => ∃ v6 v7, Δ' = [.dat (b.d ⟨S.C_Book, S.C_Rule, S.C_Listing, S.C_Sending⟩), .dat (lstD ⟨S.C_Book, S.C_Rule, S.C_Listing, S.C_Sending⟩ l), dI (k0 : Int), .dat (dicD winD (windows b l)), .own p, .dat (epD e), v6, v7] ∧ st' = (p, .dic (pl.map fun x => ((Sum.inr x.1 : Key), dI x.2))) :: st) (by rw [List.map_map]; rfl) ⟨v6, v7, rfl, rfl⟩ ?_ ?_
      · rintro i n Δ' st' hi J
        obtain ⟨v6, v7, rfl, rfl⟩ := J.r
        have hm := List.mem_of_getElem? hi
        obtain ⟨x, hx, rfl, hxe⟩ := sends_mem.mp hm
        walk_at "w"
        refine ⟨.inr x.n, .dat (winD x.win), rfl, by rw [getD_dic winD (windows b l) x.n, win_look hl hx]; rfl, ?_⟩
        walk_at "w"
        rw [ctLeast_eq]
        refine ⟨windows b l, pl, x.win, k0, ⟨_, rfl, .inr ⟨p, 0, rfl, rfl⟩⟩, pok, pws, fun y hy => (inv.mem y hy).2.2, fun r h1 h2 h3 => ?_⟩
        rw [← win_of hl hx] at h3
        simp only [← win_of hl hx] at h2
        walk_at "w"
        refine ⟨fun h => ?_, fun h => ?_⟩
        · have hr : r < k0 := by have := of_decide_eq_true h; omega
          have hf := free_some hr h2 h3
          walk_at "w"
          refine ⟨0, _, .inr x.n, rfl, rfl, ?_, ?_⟩
          · rw [List.length_map]
            exact Nat.lt_of_le_of_lt pok.len (by rw [sizeLine_eq]; decide)
          walk_at "w"
          have hff := first_some (fj_yes hi J (by show (freeAt _ _ _ _).isSome = true; rw [hf]; rfl)) hf
          refine ⟨_, _, _, rfl, ?_⟩
          have hnew : (Sum.inr x.n : Key) ∉ (pl.map fun x => ((Sum.inr x.1 : Key), dI x.2)).map (·.1) := by
            rw [List.map_map]
            intro z
            obtain ⟨y, hy, e1⟩ := List.mem_map.mp z
            exact inv.new hl hne hm (List.mem_map.mpr ⟨y, hy, Sum.inr.inj e1⟩)
          unfold takeStep
          rw [hff, putD_new hnew]
          unfold addTo
          rw [List.map_append]
          rfl
        · have hr : k0 ≤ r := by have := of_decide_eq_false h; omega
          have hf := free_none (n := x.n) hr h2
          walk_at "w"
          exact fj_no hi J (by show (freeAt _ _ _ _).isSome = false; rw [hf]; rfl) ⟨_, _, rfl, rfl⟩
      · rintro Δ' st' ⟨v6, v7, rfl, rfl⟩ hn
        walk_at "w"
        have hff := first_none hn
        refine ⟨_, _, _, rfl, ?_⟩
        unfold takeStep
        rw [hff]
        rfl
    · rintro Δ' st' ⟨v5, v6, v7, rfl, rfl⟩
      walk_at "w"
      refine ⟨.dat (dicD .int (taken b l k0)), st, .pub (j := 0) rfl (.dic ?_) hp (.cons _ (List.Sublist.refl _)), k⟩
      have := allK_map ((taken b l k0).map fun x => ((Sum.inr x.1 : Key), Dt.int x.2))
      rw [List.map_map] at this
      exact this
theorem ok_own_plan (S : En K mg) : FnOk P w K mg base (L2.CX P w) 8 S.f_own_plan S.d_own_plan ["book", "listing", "receivers"] (lowF K (ctOwnX ⟨S.C_Book, S.C_Rule, S.C_Listing, S.C_Sending⟩ S.C_InvalidNumber)) := by
  refine fn_low _ S.F_own_plan sc_own_plan (fun ss st ok ex h => ?_) ?_ (fun cdv A outer s H E hr tk po => (bcons (sdrop (dcall (dds := []) (ok_check_receivers S) (hr.mono (by decide)) S.g_check_receivers S.F_check_receivers.kp S.b_check_receivers .nil (fun _ => .nil) tk (acons (dv 2) anil)))
  (bone (sret (dcall (dds := []) (ok_ascending S) (hr.mono (by decide)) S.g_ascending S.F_ascending.kp S.b_ascending .nil (fun _ => .nil) tk (acons (dcall (dds := []) (ok_taken_up S) (hr.mono (by decide)) S.g_taken_up S.F_taken_up.kp S.b_taken_up .nil (fun _ => .nil) tk (acons (dv 0) (acons (dv 1) (acons (dv 2) anil)))) anil))))))
  · rcases h with h | ⟨_, _, _, rfl, _⟩; exact bl_len (m := 1) (fun _ => rfl) h; rfl
  · rintro ss st ok ex (h | ⟨b, l, d, rfl, hd, k⟩)
    · unfold ctOwn at h
      rw [ctBL_eq] at h
      obtain ⟨b, l, k0, rfl, hb, hl, ⟨hk1, hk2⟩, k⟩ := h
      walk_at "w"
      refine Or.inl ⟨k0, rfl, hk1, hk2, ?_⟩
      walk_at "w"
      refine bl_at k0 rfl hb hl hk2 ?_
      walk_at "w"
      rw [ctAsc_eq]
      refine ⟨_, rfl, ((taken_inv hl k0).ok hl (wishes_len hl)).1, ?_⟩
      walk_at "f"
      exact k
    · walk_at "w"
      refine Or.inr ⟨d, rfl, hd, ?_⟩
      exact ⟨st, List.Sublist.refl _, k⟩
theorem ok_no_episode_twice (S : En K mg) : FnOk P w K mg base (L2.CX P w) 4 S.f_no_episode_twice S.d_no_episode_twice ["listing", "names"] (lowF K (ctApartN ⟨S.C_Book, S.C_Rule, S.C_Listing, S.C_Sending⟩)) := by
  refine fn_low _ S.F_no_episode_twice sc_no_episode_twice (fun ss st ok ex h => ?_) ?_ (fun cdv A outer s H E hr tk po => (bone (sret (dcmp op_eq lr_eqS (dlsc hr S.n_len [("name", 2)] sc_no_episode_twice.nd (iT (dv 1)) (blkOk_by (N := ["listing", "names", "name"]) (sc := defScope s_no_episode_twice) (by decide +kernel)) (fun _ _ _ _ _ => (gwname 2 sc_no_episode_twice.nd)) (fun _ _ _ _ _ => tsnil) (fun _ _ _ _ _ => (dcall (dds := []) (ok_episode_of S) (hr.mono (by decide)) S.g_episode_of S.F_episode_of.kp S.b_episode_of .nil (fun _ => .nil) takes0 (acons (dget S.sg_Listing_getitem S.fi_Listing_getitem S.fn_Listing_getitem (ok_Listing_getitem S) (hr.mono (by decide)) S.b_Listing_getitem takes0 (dv 0) (dv 2)) anil)))) (dcb call_len_seq lc_lenT S.n_len PySem.boot_len (acons (dv 1) anil)) (nomark _)))))
  · rw [ctApartN_eq] at h; obtain ⟨_, _, rfl, _⟩ := h; rfl
  · intro ss st ok ex h
    rw [ctApartN_eq] at h
    obtain ⟨l, t, rfl, hl, h10, hin, k⟩ := h
    walk_at "w"
    refine len_pure t .str (fun n => epKey (epAt l n)) (by rw [List.map_map]; rfl) (by omega) ?_ ?_
    · intro i n acc hx J
      obtain ⟨s, hs⟩ := hin n (List.mem_of_getElem? hx)
      walk_at "ss"
      refine ⟨rfl, ?_⟩
      rw [ctItem_eq]
      refine ⟨l, n, s, rfl, hl.get hs, ?_⟩
      walk_at "w"
      refine ⟨s, rfl, ?_⟩
      exact len_yes hx J (by unfold epAt; rw [hl.get hs]; rfl)
    · intro L nd hm
      walk_at "f"
      rw [List.length_map, List.length_map, apartN_len nd hm]
      exact k
theorem ok_episodes_of (S : En K mg) : FnOk P w K mg base (L2.CX P w) 4 S.f_episodes_of S.d_episodes_of ["listing", "plan"] (lowF K (ctEps ⟨S.C_Book, S.C_Rule, S.C_Listing, S.C_Sending⟩)) := by
  refine fn_low _ S.F_episodes_of sc_episodes_of (fun ss st ok ex h => ?_) ?_ (fun cdv A outer s H E hr tk po => (bone (sret (dlcK [("name", 2)] sc_episodes_of.nd (dv 1) (blkOk_by (N := ["listing", "plan", "name"]) (sc := defScope s_episodes_of) (by decide +kernel)) (fun _ _ _ _ _ => (gwname 2 sc_episodes_of.nd)) (fun _ _ _ _ _ => tsnil) (fun _ _ _ _ _ => (dcall (dds := []) (ok_episode_of S) (hr.mono (by decide)) S.g_episode_of S.F_episode_of.kp S.b_episode_of .nil (fun _ => .nil) takes0 (acons (dget S.sg_Listing_getitem S.fi_Listing_getitem S.fn_Listing_getitem (ok_Listing_getitem S) (hr.mono (by decide)) S.b_Listing_getitem takes0 (dv 0) (dv 2)) anil)))))))
  · rw [ctEps_eq] at h; obtain ⟨_, _, rfl, _⟩ := h; rfl
  · intro ss st ok ex h
    rw [ctEps_eq] at h
    obtain ⟨l, p, rfl, hl, hp, h1, k⟩ := h
    walk_at "w"
    refine lc_pure p (fun x => .str x.1) (fun x => some (epD (epAt l x.1))) (by unfold keysD; rw [List.map_map]; rfl) ?_ ?_
    · intro i x D acc hx hD J
      obtain ⟨s, hs⟩ := Option.isSome_iff_exists.mp (h1 x (List.mem_of_getElem? hx))
      walk_at "ss"
      refine ⟨rfl, ?_⟩
      rw [ctItem_eq]
      refine ⟨l, x.1, s, rfl, hs, ?_⟩
      walk_at "w"
      refine ⟨s, rfl, ?_⟩
      walk_at "w"
      exact lc_yes (Nat.le_trans hp (by decide)) hx J (by unfold epAt; rw [hs]; rfl)
    · walk_at "f"
      rw [fm_some]
      rw [List.map_map] at k
      exact k
theorem ok_lost (S : En K mg) : FnOk P w K mg base (L2.CX P w) 9 S.f_lost S.d_lost ["book", "listing", "receivers"] (lowF K (ctLostX ⟨S.C_Book, S.C_Rule, S.C_Listing, S.C_Sending⟩ S.C_InvalidNumber)) := by
  refine fn_low _ S.F_lost sc_lost (fun ss st ok ex h => ?_) ?_ (fun cdv A outer s H E hr tk po => (bcons (sset 3 sc_lost.nd (dcall (dds := []) (ok_episodes_of S) (hr.mono (by decide)) S.g_episodes_of S.F_episodes_of.kp S.b_episodes_of .nil (fun _ => .nil) tk (acons (dv 1) (acons (dcall (dds := []) (ok_own_plan S) (hr.mono (by decide)) S.g_own_plan S.F_own_plan.kp S.b_own_plan .nil (fun _ => .nil) tk (acons (dv 0) (acons (dv 1) (acons (dv 2) anil)))) anil))))
  (bone (sret (dlc [("episode", 4)] sc_lost.nd (iL (dcall (dds := []) (ok_wishes S) (hr.mono (by decide)) S.g_wishes S.F_wishes.kp S.b_wishes .nil (fun _ => .nil) tk (acons (dv 0) (acons (dv 1) anil)))) (blkOk_by (N := ["book", "listing", "receivers", "recorded", "episode"]) (sc := defScope s_lost) (by decide +kernel)) (fun _ _ _ _ _ => (gwname 4 sc_lost.nd)) (fun _ _ _ _ _ => (tsone (tsNi hr (dv 4) (dv 3)))) (fun _ _ _ _ _ => (dv 4)))))))
  · rcases h with h | ⟨_, _, _, rfl, _⟩; exact bl_len (m := 1) (fun _ => rfl) h; rfl
  · rintro ss st ok ex (h | ⟨b, l, d, rfl, hd, k⟩)
    · unfold ctLost at h
      rw [ctBL_eq] at h
      obtain ⟨b, l, k0, rfl, hb, hl, ⟨hk1, hk2⟩, k⟩ := h
      walk_at "w"
      refine Or.inl (bl_at k0 rfl hb hl ⟨hk1, hk2⟩ ?_)
      walk_at "w"
      rw [ctEps_eq]
      refine ⟨l, ownPlan b l k0, rfl, hl, own_len hl k0, fun x hx => ?_, ?_⟩
      · obtain ⟨w, hw, e1, e2⟩ := own_wish hl hx
        rw [e2]
        rfl
      walk_at "w"
      refine bl_at () rfl hb hl trivial ?_
      walk_at "w"
      refine lc_pure (wishes b l) epD (fun e => if (!decide (e ∈ recorded b l k0)) = true then some (epD e) else none) (by rw [List.map_map]; rfl) ?_ ?_
      · intro i e D acc hx hD J
        have hm := List.mem_of_getElem? hx
        walk_at "w"
        refine ⟨_, (recorded b l k0).map epP, ep_of e, eps_of (recorded b l k0), ep_shaped e (wish_word hl hm), eps_lay _ (fun _ h => rec_word hl h), ?_⟩
        rw [ep_any]
        refine ⟨fun h => ?_, fun h => ?_⟩
        · walk_at "w"
          exact lc_yes (Nat.le_trans (wishes_len hl) (by decide)) hx J (if_pos h)
        · walk_at "w"
          exact lc_no hx J (if_neg (by rw [show (!decide (e ∈ recorded b l k0)) = false from h]; decide))
      · walk_at "f"
        rw [fm_if]
        exact k
    · walk_at "w"
      refine Or.inr ⟨b, l, d, rfl, hd, ?_⟩
      exact ⟨st, List.Sublist.refl _, k⟩
theorem ok_plan_before (S : En K mg) : FnOk P w K mg base (L2.CX P w) 9 S.f_plan_before S.d_plan_before ["book", "listing", "receivers", "episode"] (lowF K (ctBefore ⟨S.C_Book, S.C_Rule, S.C_Listing, S.C_Sending⟩)) := by
  refine fn_low _ S.F_plan_before sc_plan_before (fun ss st ok ex h => ?_) ?_ (fun cdv A outer s H E hr tk po => (bcons (sset 4 sc_plan_before.nd (dcall (dds := []) (ok_wishes S) (hr.mono (by decide)) S.g_wishes S.F_wishes.kp S.b_wishes .nil (fun _ => .nil) tk (acons (dv 0) (acons (dv 1) anil))))
  (bcons (sset 5 sc_plan_before.nd (dslL (dv 4) onone (osome (dindex (hu65 hr) (dv 4) (dv 3)))))
  (bcons (sset 6 sc_plan_before.nd (dcall (dds := []) (ok_own_plan S) (hr.mono (by decide)) S.g_own_plan S.F_own_plan.kp S.b_own_plan .nil (fun _ => .nil) tk (acons (dv 0) (acons (dv 1) (acons (dv 2) anil)))))
  (bone (sret (ddcK [("name", 7)] sc_plan_before.nd (dv 6) (blkOk_by (N := ["book", "listing", "receivers", "episode", "wished", "earlier", "plan", "name"]) (sc := defScope s_plan_before) (by decide +kernel)) (fun _ _ _ _ _ => (gwname 7 sc_plan_before.nd)) (fun _ _ _ _ _ => (tsone (tsIn hr (dcall (dds := []) (ok_episode_of S) (hr.mono (by decide)) S.g_episode_of S.F_episode_of.kp S.b_episode_of .nil (fun _ => .nil) takes0 (acons (dget S.sg_Listing_getitem S.fi_Listing_getitem S.fn_Listing_getitem (ok_Listing_getitem S) (hr.mono (by decide)) S.b_Listing_getitem takes0 (dv 1) (dv 7)) anil)) (dv 5)))) (fun _ _ _ _ _ => (dv 7)) (fun _ _ _ _ _ => (ddget (hu1 hr) (dv 6) (dv 7))))))))))
  · exact bl_len (m := 2) (fun _ => rfl) h
  · intro ss st ok ex h
    unfold ctBefore at h
    rw [ctBL_eq] at h
    obtain ⟨b, l, ⟨k0, e⟩, rfl, hb, hl, ⟨⟨hk1, hk2⟩, he⟩, k⟩ := h
    dsimp only at he hk1 hk2 k
    obtain ⟨pre, post, hs, hne⟩ := wish_split he
    have hej := earlier_is hs hne
    walk_at "w"
    refine bl_at () rfl hb hl trivial ?_
    walk_at "w"
    refine ⟨epP e, (wishes b l).map epP, pre.length, epP e, ep_of e, eps_of _, eps_shaped _ (fun _ h => wish_word hl h), ep_shaped e (wish_word hl he), by rw [hs]; simp, by rw [ep_eqv]; exact decide_eq_true rfl, fun m z' hm hz => ?_, ?_⟩
    · rw [hs, List.getElem?_map, List.getElem?_append_left hm] at hz
      obtain ⟨y, hy, rfl⟩ := Option.map_eq_some_iff.mp hz
      rw [ep_eqv]
      exact decide_eq_false fun z => hne (z ▸ List.mem_of_getElem? hy)
    walk_at "w"
    refine ⟨(earlier b l e).map epD, ?_, ?_⟩
    · rw [cut_to _ _ (by rw [hs]; simp), hej, hs, ← List.map_take, List.map_append, List.take_left' (by rw [List.length_map])]
      exact .map _
    walk_at "w"
    refine Or.inl (bl_at k0 rfl hb hl ⟨hk1, hk2⟩ ?_)
    walk_at "w"
    refine dc_pure (ownPlan b l k0) (fun x => .str x.1) (fun x => if decide (epAt l x.1 ∈ earlier b l e) = true then some ((Sum.inr x.1 : Key), Dt.int x.2) else none) (by unfold keysD; rw [List.map_map]; rfl) ?_ ?_
    · intro i x D acc hx hD J
      have hm := List.mem_of_getElem? hx
      obtain ⟨w, hw, e1, e2⟩ := own_wish hl hm
      have hep : epAt l x.1 = w.s.ep := by unfold epAt; rw [e2]; rfl
      have hsub : ∀ y ∈ earlier b l e, isWord y.1 = true := fun y hy => wish_word hl (by rw [hs]; rw [hej] at hy; exact List.mem_append_left _ hy)
      walk_at "w"
      refine ⟨rfl, ?_⟩
      rw [ctItem_eq]
      refine ⟨l, x.1, w.s, rfl, e2, ?_⟩
      walk_at "w"
      refine ⟨w.s, rfl, ?_⟩
      walk_at "w"
      refine ⟨_, (earlier b l e).map epP, ep_of w.s.ep, eps_of _, ep_shaped _ (hl.ok _ (wished_mem.mp hw).1).2.sh, eps_lay _ hsub, ?_⟩
      rw [ep_any]
      refine ⟨fun h => ?_, fun h => ?_⟩
      · walk_at "w"
        refine ⟨.inr x.1, .dat (.int x.2), rfl, by rw [getD_dic Dt.int (ownPlan b l k0) x.1, look_mem (own_nd hl k0) hm]; rfl, ?_⟩
        exact dc_yes (Nat.le_trans (own_len hl k0) (by decide)) (by rw [fmd_if, List.map_map]; exact nodup_of (before_nd hl k0 e)) hx J (by rw [hep]; exact if_pos h) rfl
      · walk_at "w"
        exact dc_no hx J (by rw [hep]; exact if_neg (by rw [show decide (w.s.ep ∈ earlier b l e) = false from h]; decide))
    · walk_at "f"
      rw [fmd_if]
      exact k
theorem ok_in_the_way (S : En K mg) : FnOk P w K mg base (L2.CX P w) 10 S.f_in_the_way S.d_in_the_way ["book", "listing", "receivers", "episode"] (lowF K (ctWayX ⟨S.C_Book, S.C_Rule, S.C_Listing, S.C_Sending⟩ S.C_InvalidNumber S.C_UnknownEpisode)) := by
  refine fn_low _ S.F_in_the_way sc_in_the_way (fun ss st ok ex h => ?_) ?_ (fun cdv A outer s H E hr tk po => (bcons (sif (tsNi hr (dv 3) (dcall (dds := []) (ok_lost S) (hr.mono (by decide)) S.g_lost S.F_lost.kp S.b_lost .nil (fun _ => .nil) tk (acons (dv 0) (acons (dv 1) (acons (dv 2) anil)))))
   (bone (sraise0 PySem.F.excBase_ValueError S.x_UnknownEpisode S.g_UnknownEpisode S.kc_UnknownEpisode (raises_own S.r_UnknownEpisode S.ty_UnknownEpisode) tk)) bnil)
  (bcons (sset 4 sc_in_the_way.nd (dcall (dds := []) (ok_wished_windows S) (hr.mono (by decide)) S.g_wished_windows S.F_wished_windows.kp S.b_wished_windows .nil (fun _ => .nil) tk (acons (dv 0) (acons (dv 1) anil))))
  (bcons (sset 5 sc_in_the_way.nd (dcall (dds := []) (ok_plan_before S) (hr.mono (by decide)) S.g_plan_before S.F_plan_before.kp S.b_plan_before .nil (fun _ => .nil) tk (acons (dv 0) (acons (dv 1) (acons (dv 2) (acons (dv 3) anil))))))
  (bcons (sset 6 sc_in_the_way.nd ddnew)
  (bcons (sfor po (iL (dcall (dds := []) (ok_sendings_of S) (hr.mono (by decide)) S.g_sendings_of S.F_sendings_of.kp S.b_sendings_of .nil (fun _ => .nil) tk (acons (dv 0) (acons (dv 1) (acons (dv 3) anil))))) (gname 7 sc_in_the_way.nd)
   (bone (sdput (hu1 hr) (dlc [("receiver", 8)] sc_in_the_way.nd (iR S.n_range (acons (dv 2) anil)) (blkOk_by (N := ["book", "listing", "receivers", "episode", "windows", "plan", "found", "name", "receiver"]) (sc := defScope s_in_the_way) (by decide +kernel)) (fun _ _ _ _ _ => (gwname 8 sc_in_the_way.nd)) (fun _ _ _ _ _ => tsnil) (fun _ _ _ _ _ => (dcall (dds := []) (ok_on_receiver S) (hr.mono (by decide)) S.g_on_receiver S.F_on_receiver.kp S.b_on_receiver .nil (fun _ => .nil) takes0 (acons (dv 4) (acons (dv 5) (acons (dv 8) (acons (ddget (hu1 hr) (dv 4) (dv 7)) anil))))))) (dv 6) (dv 7))))
  (bone (sret (dv 6)))))))))
  · rcases h with h | ⟨_, _, _, _, rfl, _⟩ | ⟨_, _, _, _, rfl, _⟩; rw [ctWay_eq] at h; obtain ⟨_, _, _, _, rfl, _⟩ := h; rfl; rfl; rfl
  · rintro ss st ok ex (h | ⟨b, l, d, e, rfl, hd, k⟩ | ⟨b, l, k0, e, rfl, hb, hl, hk1, hk2, hw, he, k⟩)
    · rw [ctWay_eq] at h
      obtain ⟨b, l, k0, e, rfl, hb, hl, hk1, hk2, he, k⟩ := h
      have hew := lost_mem he
      walk_at "w"
      refine Or.inl (bl_at k0 rfl hb hl ⟨hk1, hk2⟩ ?_)
      walk_at "w"
      refine ⟨epP e, (lost b l k0).map epP, ep_of e, eps_of _, ep_shaped _ (wish_word hl hew), eps_lay _ (fun _ h => wish_word hl (lost_mem h)), ?_⟩
      rw [ep_any, decide_eq_true he]
      refine ⟨fun h => absurd h Bool.false_ne_true, fun _ => ?_⟩
      walk_at "w"
      refine bl_at () rfl hb hl trivial ?_
      walk_at "w"
      refine bl_at (k0, e) rfl hb hl ⟨⟨hk1, hk2⟩, hew⟩ ?_
      walk_at "w"
      intro q hq
      walk_at "w"
      refine bl_at e rfl hb hl (wishes_mem.mp hew) ?_
      walk_at "w"
      refine loop_fold (sendsOf b l e) (fun n => .str n) (fun s n => s ++ [((Sum.inr n : Key), Sv.dat (wayD (wayOf b l k0 e n)))]) [] (fun s Δ' st' => ∃ v7 v8, Δ' = [.dat (b.d ⟨S.C_Book, S.C_Rule, S.C_Listing, S.C_Sending⟩), .dat (lstD ⟨S.C_Book, S.C_Rule, S.C_Listing, S.C_Sending⟩ l), dI (k0 : Int), .dat (epD e), .dat (dicD winD (windows b l)), .dat (dicD .int (planBefore b l k0 e)), .own q, v7, v8] ∧ st' = (q, .dic s) :: st) (by rw [List.map_map]; rfl) ⟨.un, .un, rfl, rfl⟩ ?_ ?_
      · rintro pre n post s Δ' st' has hs ⟨v7, v8, rfl, rfl⟩
        rw [fold_snoc, List.nil_append] at hs
        have hm : n ∈ sendsOf b l e := by rw [has]; simp
        obtain ⟨x, hx, rfl, _⟩ := sends_mem.mp hm
        obtain ⟨pok, pws⟩ := before_ok (b := b) hl k0 e
        walk_at "w"
        refine ⟨by omega, by omega, ?_⟩
        walk_at "w"
        refine lc_pure (List.range k0) (fun r => .int (0 + (r : Int))) (fun r => some (namesD (onRec (windows b l) (planBefore b l k0 e) (r : Int) x.n))) (by unfold rngS; simp) ?_ ?_
        · intro i r D acc hx' hD J
          walk_at "ss"
          refine ⟨.inr x.n, .dat (winD x.win), rfl, by rw [getD_dic winD (windows b l) x.n, win_look hl hx]; rfl, ?_⟩
          walk_at "w"
          rw [ctOnRec_eq]
          refine ⟨windows b l, planBefore b l k0 e, 0 + (r : Int), x.win, ⟨_, rfl, .inl rfl⟩, pok, pws, ?_⟩
          rw [Int.zero_add, ← win_of hl hx]
          walk_at "w"
          exact lc_yes (by rw [List.length_range]; exact Nat.le_trans hk2 (by decide)) hx' J rfl
        · walk_at "w"
          have hsl : s.length ≤ 10 := by
            have := sends_len (b := b) hl e
            rw [has, List.length_append] at this
            rw [hs, List.length_map]
            omega
          refine ⟨0, _, .inr x.n, rfl, rfl, Nat.lt_of_le_of_lt hsl (by rw [sizeLine_eq]; decide), ?_⟩
          walk_at "w"
          have hnew : (Sum.inr x.n : Key) ∉ s.map (·.1) := by
            have nd := sends_nd (b := b) hl e
            rw [has] at nd
            rw [hs, List.map_map]
            intro z
            obtain ⟨y, hy, e1⟩ := List.mem_map.mp z
            have e2 : y = x.n := Sum.inr.inj e1
            exact (List.nodup_append.mp nd).2.2 y hy x.n List.mem_cons_self e2
          rw [putD_new hnew]
          refine ⟨_, _, rfl, ?_⟩
          rw [fm_some]
          unfold wayD wayOf
          rw [List.map_map]
          rfl
      · rintro Δ' st' ⟨v7, v8, rfl, rfl⟩
        rw [fold_snoc]
        walk_at "w"
        exact ⟨_, _, .keep (List.Sublist.refl _), k q hq⟩
    · walk_at "w"
      refine Or.inr ⟨b, l, d, rfl, hd, ?_⟩
      exact ⟨st, List.Sublist.refl _, k⟩
    · walk_at "w"
      refine Or.inl (bl_at k0 rfl hb hl ⟨hk1, hk2⟩ ?_)
      walk_at "w"
      refine ⟨epP e, (lost b l k0).map epP, ep_of e, eps_of _, ep_shaped _ hw, eps_lay _ (fun _ h => wish_word hl (lost_mem h)), ?_⟩
      rw [ep_any, decide_eq_false he]
      walk_at "ss"
      exact ⟨st, List.Sublist.refl _, k⟩
theorem ok_subsets (S : En K mg) : FnOk P w K mg base (L2.CX P w) 1 S.f_subsets S.d_subsets ["items", "most"] (lowF K ctSubs2) := by
  refine fn_low _ S.F_subsets sc_subsets (fun ss st ok ex h => ?_) ?_ (fun cdv A outer s H E hr tk po => (bcons (sset 2 sc_subsets.nd (dlst (acons (dtup anil) anil)))
  (bcons (sset 3 sc_subsets.nd (dlst (acons (dtup anil) anil)))
  (bcons (sfor po (iR S.n_range (acons (dv 1) anil)) (gname 4 sc_subsets.nd)
   (bcons (seither (ssetLc2 2 [("taken", 5), ("item", 6)] [6] sc_subsets.nd (iL (dv 2)) (blkOk_by (N := ["items", "most", "longest", "found", "_", "taken", "item"]) (sc := defScope s_subsets) (by decide +kernel)) (fun _ _ _ _ _ => (gwname 5 sc_subsets.nd)) (fun _ _ _ _ _ => tsnil) (fun _ _ _ _ _ => (iL (dv 0))) (fun _ _ _ _ _ => (gwname 6 sc_subsets.nd)) (fun _ _ _ _ _ => (tsone (tw (wor (tnot (ttruT (dv 5))) (wor1 (tcmp op_lt_str lr_ltStr (dix ix_tup lr_ixT (dv 5) (dneg di)) (dv 6) (nomark _))))))) (fun _ _ _ _ _ => (dtup (astar (dv 5) (acons (dv 6) anil))))) (ssetLc2 2 [("taken", 5), ("item", 6)] [6] sc_subsets.nd (iL (dv 2)) (blkOk_by (N := ["items", "most", "longest", "found", "_", "taken", "item"]) (sc := defScope s_subsets) (by decide +kernel)) (fun _ _ _ _ _ => (gwname 5 sc_subsets.nd)) (fun _ _ _ _ _ => tsnil) (fun _ _ _ _ _ => (iT (dv 0))) (fun _ _ _ _ _ => (gwname 6 sc_subsets.nd)) (fun _ _ _ _ _ => (tsone (tw (wor (tnot (ttruT (dv 5))) (wor1 (tcmp op_lt_str lr_ltStr (dix ix_tup lr_ixT (dv 5) (dneg di)) (dv 6) (nomark _))))))) (fun _ _ _ _ _ => (dtup (astar (dv 5) (acons (dv 6) anil))))))
  (bone (sset 3 sc_subsets.nd (dop op_cat lr_cat (dv 3) (dv 2))))))
  (bone (sret (dv 3)))))))
  · rcases h with ⟨_, _, rfl, _⟩ | ⟨_, _, rfl, _⟩ <;> rfl
  · rintro ss st ok ex (⟨ns, n, rfl, ha, hns, hn, k⟩ | ⟨ns, n, rfl, hns, hn, k⟩)
    · walk_at "zz"
      refine ⟨by omega, by omega, ?_⟩
      walk_at "w"
      refine loop_fold (List.range n) (fun i => .int (0 + (i : Int))) (fun (m : Nat) _ => m + 1) 0 (fun m Δ' st' => ∃ v4 v5 v6, Δ' = [.dat (namesD ns), dI (n : Int), .dat (.lst ((lvU strLt ns m).map nsD)), .dat (.lst ((subsN ns m).map nsD)), v4, v5, v6] ∧ st' = st) (by unfold rngS; simp) ⟨.un, .un, .un, rfl, rfl⟩ ?_ ?_
      · rintro pre kk post m Δ' st' has hm ⟨v4, v5, v6, rfl, rfl⟩
        have hm7 : m + 1 ≤ 10 := by
          rw [count_fold] at hm
          have := congrArg List.length has
          rw [List.length_range, List.length_append, List.length_cons] at this
          omega
        have hsz := lv_few ha hns (m + 1)
        walk_at "w"
        refine Or.inl ?_
        walk_at "w"
        refine lc2_pure (lvU strLt ns m) nsD (fun _ => ns) (fun t i => (growF strLt t i).map nsD) (by rw [List.map_map]; rfl) ?_ ?_
        · intro i t D acc ht hD J
          walk_at "ss"
          refine lc2_in .str ht hD J (by rw [List.map_map]; rfl) ?_
          intro j y acc1 hy J1
          have hlen := j2_len ht J1
          rw [lv_next, List.length_map] at hlen
          walk_at "w"
          refine ⟨fun h => ?_, fun h => ?_⟩
          · have ht0 : t = [] := by
              cases t with
              | nil => rfl
              | cons a t => cases h
            subst ht0
            walk_at "ss"
            refine ⟨by rw [sizeLine_eq]; show 1 ≤ _; omega, ?_⟩
            walk_at "w"
            refine l2_yes hy J1 ?_ (by rw [sizeLine_eq]; omega)
            rw [grow_yes (lt := strLt) (fun z hz => by cases hz)]
            rfl
          · rcases List.eq_nil_or_concat t with rfl | ⟨s, z, rfl⟩
            · cases h
            · rw [List.concat_eq_append] at *
              refine ⟨.dat (.str z), by rw [List.map_append, List.map_append]; exact atI_end _ _, ?_⟩
              have htl : (s ++ [z]).length ≤ 10 := by
                rw [((lv_mem str_ord ns m _).mp (List.mem_of_getElem? ht)).1]
                omega
              have hlast : (s ++ [z]).getLast? = some z := by simp
              walk_at "w"
              refine ⟨fun h2 => ?_, fun h2 => ?_⟩
              · have hg : growF strLt (s ++ [z]) y = some (s ++ [z] ++ [y]) := grow_yes fun w hw => by
                  rw [hlast] at hw
                  cases hw
                  exact h2
                walk_at "w"
                refine ⟨by rw [List.length_append, List.length_map, List.length_map, sizeLine_eq]; show _ + 1 ≤ _; omega, ?_⟩
                walk_at "w"
                refine all_at (ds := (s ++ [z] ++ [y]).map .str) ?_ ?_
                · show allD? (((s ++ [z]).map Dt.str).map Sv.dat ++ [Dt.str y].map Sv.dat) = _
                  rw [← List.map_append, allD_map, List.map_append (l₁ := s ++ [z])]
                  rfl
                · exact l2_yes (d := nsD (s ++ [z] ++ [y])) hy J1 (by rw [hg]; rfl) (by rw [sizeLine_eq]; omega)
              · walk_at "w"
                refine l2_no hy J1 ?_
                unfold growF
                rw [last_ok hlast, show strLt z y = false from h2]
                cases s <;> rfl
        · rw [lv_next]
          have h1 := subs_few ha hns m
          walk_at "w"
          refine ⟨by simp only [List.length_map, sizeLine_eq]; omega, (subsN ns (m + 1)).map nsD, ?_, ?_⟩
          · rw [← List.map_append, ← List.map_append]
            exact .map _
          · walk_at "w"
            exact ⟨_, _, _, rfl, rfl⟩
      · rintro Δ' st' ⟨v4, v5, v6, rfl, rfl⟩
        rw [count_fold, List.length_range]
        walk_at "f"
        rw [Nat.zero_add]
        exact k
    · walk_at "zz"
      refine ⟨by omega, by omega, ?_⟩
      walk_at "w"
      refine loop_fold (List.range n) (fun i => .int (0 + (i : Int))) (fun (m : Nat) _ => m + 1) 0 (fun m Δ' st' => ∃ v4 v5 v6, Δ' = [.dat (nsD ns), dI (n : Int), .dat (.lst ((lvU strLt ns m).map nsD)), .dat (.lst ((subsN ns m).map nsD)), v4, v5, v6] ∧ st' = st) (by unfold rngS; simp) ⟨.un, .un, .un, rfl, rfl⟩ ?_ ?_
      · rintro pre kk post m Δ' st' has hm ⟨v4, v5, v6, rfl, rfl⟩
        have hm7 : m + 1 ≤ 7 := by
          rw [count_fold] at hm
          have := congrArg List.length has
          rw [List.length_range, List.length_append, List.length_cons] at this
          omega
        have hsz := lv_small (lt := strLt) hns hm7
        walk_at "w"
        refine Or.inr ?_
        walk_at "w"
        refine lc2_pure (lvU strLt ns m) nsD (fun _ => ns) (fun t i => (growF strLt t i).map nsD) (by rw [List.map_map]; rfl) ?_ ?_
        · intro i t D acc ht hD J
          walk_at "ss"
          refine lc2_in .str ht hD J (by rw [List.map_map]; rfl) ?_
          intro j y acc1 hy J1
          have hlen := j2_len ht J1
          rw [lv_next, List.length_map] at hlen
          walk_at "w"
          refine ⟨fun h => ?_, fun h => ?_⟩
          · have ht0 : t = [] := by
              cases t with
              | nil => rfl
              | cons a t => cases h
            subst ht0
            walk_at "ss"
            refine ⟨by rw [sizeLine_eq]; show 1 ≤ _; omega, ?_⟩
            walk_at "w"
            refine l2_yes hy J1 ?_ (by rw [sizeLine_eq]; omega)
            rw [grow_yes (lt := strLt) (fun z hz => by cases hz)]
            rfl
          · rcases List.eq_nil_or_concat t with rfl | ⟨s, z, rfl⟩
            · cases h
            · rw [List.concat_eq_append] at *
              refine ⟨.dat (.str z), by rw [List.map_append, List.map_append]; exact atI_end _ _, ?_⟩
              have htl : (s ++ [z]).length ≤ 7 := by
                rw [((lv_mem str_ord ns m _).mp (List.mem_of_getElem? ht)).1]
                omega
              have hlast : (s ++ [z]).getLast? = some z := by simp
              walk_at "w"
              refine ⟨fun h2 => ?_, fun h2 => ?_⟩
              · have hg : growF strLt (s ++ [z]) y = some (s ++ [z] ++ [y]) := grow_yes fun w hw => by
                  rw [hlast] at hw
                  cases hw
                  exact h2
                walk_at "w"
                refine ⟨by rw [List.length_append, List.length_map, List.length_map, sizeLine_eq]; show _ + 1 ≤ _; omega, ?_⟩
                walk_at "w"
                refine all_at (ds := (s ++ [z] ++ [y]).map .str) ?_ ?_
                · show allD? (((s ++ [z]).map Dt.str).map Sv.dat ++ [Dt.str y].map Sv.dat) = _
                  rw [← List.map_append, allD_map, List.map_append (l₁ := s ++ [z])]
                  rfl
                · exact l2_yes (d := nsD (s ++ [z] ++ [y])) hy J1 (by rw [hg]; rfl) (by rw [sizeLine_eq]; omega)
              · walk_at "w"
                refine l2_no hy J1 ?_
                unfold growF
                rw [last_ok hlast, show strLt z y = false from h2]
                cases s <;> rfl
        · rw [lv_next]
          have h1 : (subsN ns m).length ≤ (m + 1) * 823543 := subs_small hns (by omega)
          have h2 : (m + 1) * 823543 ≤ 7 * 823543 := Nat.mul_le_mul_right _ hm7
          walk_at "w"
          refine ⟨by simp only [List.length_map, sizeLine_eq]; omega, (subsN ns (m + 1)).map nsD, ?_, ?_⟩
          · rw [← List.map_append, ← List.map_append]
            exact .map _
          · walk_at "w"
            exact ⟨_, _, _, rfl, rfl⟩
      · rintro Δ' st' ⟨v4, v5, v6, rfl, rfl⟩
        rw [count_fold, List.length_range]
        walk_at "f"
        rw [Nat.zero_add]
        exact k
theorem ok_begin_then_name (S : En K mg) : FnOk P w K mg base (L2.CX P w) 1 S.f_begin_then_name S.d_begin_then_name ["windows", "names"] (lowF K ctBtnP) := by
  refine fn_low _ S.F_begin_then_name sc_begin_then_name (fun ss st ok ex h => ?_) ?_ (fun cdv A outer s H E hr tk po => (bone (sret (dlc [("row", 2)] sc_begin_then_name.nd (iL (dcb (cr_sortP (hu65 hr)) lc_sortP S.n_sorted PyProof.Rows.boot_sorted (acons (dlcK [("name", 3)] sc_begin_then_name.nd (dv 1) (blkOk_by (N := ["windows", "names", "row", "name"]) (sc := defScope s_begin_then_name) (by decide +kernel)) (fun _ _ _ _ _ => (gwname 3 sc_begin_then_name.nd)) (fun _ _ _ _ _ => tsnil) (fun _ _ _ _ _ => (dtup (acons (dix ix_tup lr_ixT (ddget (hu1 hr) (dv 0) (dv 3)) di) (acons (dv 3) anil))))) anil))) (blkOk_by (N := ["windows", "names", "row", "name"]) (sc := defScope s_begin_then_name) (by decide +kernel)) (fun _ _ _ _ _ => (gwname 2 sc_begin_then_name.nd)) (fun _ _ _ _ _ => tsnil) (fun _ _ _ _ _ => (dix ix_tup lr_ixT (dv 2) di))))))
  · rcases h with h | ⟨_, _, rfl, _⟩; rw [ctBtn_eq] at h; obtain ⟨_, rfl, _⟩ := h; rfl; rfl
  · rintro ss st ok ex (h | ⟨ws, p, rfl, h10, nd, hin, k⟩)
    · rw [ctBtn_eq] at h
      obtain ⟨ws, rfl, h10, nd, k⟩ := h
      walk_at "w"
      refine lc_pure ws (fun x => .str x.1) (fun x => some (bnD (x.2.1, x.1))) (by unfold keysD; rw [List.map_map]; rfl) ?_ ?_
      · intro i x D acc hx hD J
        have hxm := List.mem_of_getElem? hx
        have hlk := look_mem nd hxm
        walk_at "ss"
        refine ⟨.inr x.1, .dat (winD x.2), rfl, by rw [getD_dic winD ws x.1, hlk]; rfl, ?_⟩
        walk_at "yy"
        exact lc_yes (by rw [sizeLine_eq]; omega) hx J rfl
      rw [fm_some (fun x : Str × Win => bnD (x.2.1, x.1))]
      walk_at "w"
      refine ⟨Bn, ws.map (fun x => ((x.2.1, x.1) : Bn)), bnD, bnP, by rw [List.map_map, List.map_map]; rfl, bn_of, bn_alike _, bn_sortable _, fun r _ => bn_depth r, ?_⟩
      rw [show (ws.map fun x => ((x.2.1, x.1) : Bn)).mergeSort (PySem.W.dataLe false bnP) = btRows ws from rfl]
      walk_at "w"
      refine lc_pure (btRows ws) bnD (fun r => some (.str r.2)) (by rw [List.map_map]; rfl) ?_ ?_
      · intro i r D acc hx hD J
        have hle : (btRows ws).length ≤ 10 := by rw [(bt_perm ws).length_eq, List.length_map]; exact h10
        walk_at "ss"
        walk_at "yy"
        exact lc_yes (by rw [sizeLine_eq]; omega) hx J rfl
      rw [fm_some (fun r : Bn => Dt.str r.2)]
      walk_at "f"
      have e : (btRows ws).map (fun r => Dt.str r.2) = (btn ws).map Dt.str := by unfold btn; rw [List.map_map]; rfl
      rw [e]
      exact k
    · obtain ⟨ws2, hws2⟩ : ∃ ws2, ws2 = p.map fun x => (x.1, winOf ws x.1) := ⟨_, rfl⟩
      have hl2 : ws2.length ≤ 10 := by rw [hws2, List.length_map]; exact h10
      rw [← hws2] at k
      walk_at "w"
      refine lc_pure p (fun x => .str x.1) (fun x => some (bnD ((winOf ws x.1).1, x.1))) (by unfold keysD; rw [List.map_map]; rfl) ?_ ?_
      · intro i x D acc hx hD J
        have hxm := List.mem_of_getElem? hx
        obtain ⟨w, hlk⟩ := hin x hxm
        have hwo : winOf ws x.1 = w := by unfold winOf; rw [hlk]; rfl
        walk_at "ss"
        refine ⟨.inr x.1, .dat (winD w), rfl, by rw [getD_dic winD ws x.1, hlk]; rfl, ?_⟩
        walk_at "yy"
        exact lc_yes (by rw [sizeLine_eq]; omega) hx J (by rw [hwo]; rfl)
      rw [fm_some (fun x : Str × Int => bnD ((winOf ws x.1).1, x.1))]
      walk_at "w"
      refine ⟨Bn, ws2.map (fun x => ((x.2.1, x.1) : Bn)), bnD, bnP, by rw [hws2, List.map_map, List.map_map, List.map_map]; rfl, bn_of, bn_alike _, bn_sortable _, fun r _ => bn_depth r, ?_⟩
      rw [show (ws2.map fun x => ((x.2.1, x.1) : Bn)).mergeSort (PySem.W.dataLe false bnP) = btRows ws2 from rfl]
      walk_at "w"
      refine lc_pure (btRows ws2) bnD (fun r => some (.str r.2)) (by rw [List.map_map]; rfl) ?_ ?_
      · intro i r D acc hx hD J
        have hle : (btRows ws2).length ≤ 10 := by rw [(bt_perm ws2).length_eq, List.length_map]; exact hl2
        walk_at "ss"
        walk_at "yy"
        exact lc_yes (by rw [sizeLine_eq]; omega) hx J rfl
      rw [fm_some (fun r : Bn => Dt.str r.2)]
      walk_at "f"
      have e : (btRows ws2).map (fun r => Dt.str r.2) = (btn ws2).map Dt.str := by unfold btn; rw [List.map_map]; rfl
      rw [e]
      exact k
theorem ok_open_at (S : En K mg) : FnOk P w K mg base (L2.CX P w) 1 S.f_open_at S.d_open_at ["windows", "names", "minute"] (lowF K ctOpenW) := by
  refine fn_low _ S.F_open_at sc_open_at (fun ss st ok ex h => ?_) ?_ (fun cdv A outer s H E hr tk po => (bone (sret (deither (dlc [("name", 3)] sc_open_at.nd (iT (dv 1)) (blkOk_by (N := ["windows", "names", "minute", "name"]) (sc := defScope s_open_at) (by decide +kernel)) (fun _ _ _ _ _ => (gwname 3 sc_open_at.nd)) (fun _ _ _ _ _ => (tsone (tchain op_le op_lt lr_le lr_lt (dix ix_tup lr_ixT (ddget (hu1 hr) (dv 0) (dv 3)) di) (dv 2) (dix ix_tup lr_ixT (ddget (hu1 hr) (dv 0) (dv 3)) di)))) (fun _ _ _ _ _ => (dv 3))) (dlcK [("name", 3)] sc_open_at.nd (dv 1) (blkOk_by (N := ["windows", "names", "minute", "name"]) (sc := defScope s_open_at) (by decide +kernel)) (fun _ _ _ _ _ => (gwname 3 sc_open_at.nd)) (fun _ _ _ _ _ => (tsone (tchain op_le op_lt lr_le lr_lt (dix ix_tup lr_ixT (ddget (hu1 hr) (dv 0) (dv 3)) di) (dv 2) (dix ix_tup lr_ixT (ddget (hu1 hr) (dv 0) (dv 3)) di)))) (fun _ _ _ _ _ => (dv 3)))))))
  · rcases h with h | ⟨_, _, rfl, _⟩; rw [ctOpen_eq] at h; obtain ⟨_, _, _, rfl, _⟩ := h; rfl; rfl
  · intro ss st ok ex h
    rcases h with h | ⟨ws, m, rfl, h10, nd, k⟩
    · rw [ctOpen_eq] at h
      obtain ⟨ws, ns, m, rfl, hin, k⟩ := h
      have h10 := hin.len
      walk_at "w"
      refine Or.inl ?_
      walk_at "w"
      refine lc_pure ns .str (fun n => if (decide ((winOf ws n).1 ≤ m) && decide (m < (winOf ws n).2)) = true then some (.str n) else none) (by rw [List.map_map]; rfl) ?_ ?_
      · intro i n D acc hx hD J
        obtain ⟨w, hw⟩ := hin.mem n (List.mem_of_getElem? hx)
        have hwo : winOf ws n = w := by unfold winOf; rw [hw]; rfl
        walk_at "w"
        refine ⟨.inr n, .dat (winD w), rfl, by rw [getD_dic winD ws n, hw]; rfl, ?_⟩
        walk_at "w"
        refine ⟨_, rfl, ?_⟩
        walk_at "w"
        refine ⟨fun h1 => ?_, fun h1 => ?_⟩
        · have h1 : decide (w.1 ≤ m) = true := h1
          walk_at "w"
          refine ⟨.inr n, .dat (winD w), rfl, by rw [getD_dic winD ws n, hw]; rfl, ?_⟩
          walk_at "w"
          refine ⟨_, rfl, ?_⟩
          walk_at "w"
          refine ⟨fun h2 => ?_, fun h2 => ?_⟩
          · have h2 : decide (m < w.2) = true := h2
            walk_at "w"
            exact lc_yes (by rw [sizeLine_eq]; omega) hx J (by rw [hwo, h1, h2]; rfl)
          · have h2 : decide (m < w.2) = false := h2
            walk_at "w"
            exact lc_no hx J (by rw [hwo, h1, h2]; rfl)
        · have h1 : decide (w.1 ≤ m) = false := h1
          walk_at "ss"
          exact lc_no hx J (by rw [hwo, h1]; rfl)
      · rw [fm_if]
        walk_at "f"
        exact k
    · walk_at "w"
      refine Or.inr ?_
      walk_at "w"
      refine lc_pure ws (fun x => .str x.1) (fun x => if (decide ((winOf ws x.1).1 ≤ m) && decide (m < (winOf ws x.1).2)) = true then some (.str x.1) else none) (by unfold keysD; rw [List.map_map]; rfl) ?_ ?_
      · intro i x D acc hx hD J
        have hxm := List.mem_of_getElem? hx
        have hwo := winOf_mem nd hxm
        have hlk := look_mem nd hxm
        walk_at "w"
        refine ⟨.inr x.1, .dat (winD x.2), rfl, by rw [getD_dic winD ws x.1, hlk]; rfl, ?_⟩
        walk_at "w"
        refine ⟨_, rfl, ?_⟩
        walk_at "w"
        refine ⟨fun h1 => ?_, fun h1 => ?_⟩
        · have h1 : decide (x.2.1 ≤ m) = true := h1
          walk_at "w"
          refine ⟨.inr x.1, .dat (winD x.2), rfl, by rw [getD_dic winD ws x.1, hlk]; rfl, ?_⟩
          walk_at "w"
          refine ⟨_, rfl, ?_⟩
          walk_at "w"
          refine ⟨fun h2 => ?_, fun h2 => ?_⟩
          · have h2 : decide (m < x.2.2) = true := h2
            walk_at "w"
            exact lc_yes (by rw [sizeLine_eq]; omega) hx J (by rw [hwo, h1, h2]; rfl)
          · have h2 : decide (m < x.2.2) = false := h2
            walk_at "w"
            exact lc_no hx J (by rw [hwo, h1, h2]; rfl)
        · have h1 : decide (x.2.1 ≤ m) = false := h1
          walk_at "ss"
          exact lc_no hx J (by rw [hwo, h1]; rfl)
      · rw [fm_if (fun x : Str × Win => decide ((winOf ws x.1).1 ≤ m) && decide (m < (winOf ws x.1).2))]
        walk_at "f"
        have e : ((ws.filter fun x => decide ((winOf ws x.1).1 ≤ m) && decide (m < (winOf ws x.1).2)).map fun x => Dt.str x.1) = (openAt ws (ws.map (·.1)) m).map Dt.str := by
          unfold openAt
          rw [List.filter_map, List.map_map]
          rfl
        rw [e]
        exact k
theorem ok_most_at_once (S : En K mg) : FnOk P w K mg base (L2.CX P w) 2 S.f_most_at_once S.d_most_at_once ["windows", "names"] (lowF K ctMost) := by
  refine fn_low _ S.F_most_at_once sc_most_at_once (fun ss st ok ex h => ?_) ?_ (fun cdv A outer s H E hr tk po => (bone (sret (dmaxOr hr S.n_max (dlc [("name", 2)] sc_most_at_once.nd (iT (dv 1)) (blkOk_by (N := ["windows", "names", "name"]) (sc := defScope s_most_at_once) (by decide +kernel)) (fun _ _ _ _ _ => (gwname 2 sc_most_at_once.nd)) (fun _ _ _ _ _ => tsnil) (fun _ _ _ _ _ => (dcb call_len_seq lc_lenL S.n_len PySem.boot_len (acons (dcall (dds := []) (ok_open_at S) (hr.mono (by decide)) S.g_open_at S.F_open_at.kp S.b_open_at .nil (fun _ => .nil) takes0 (acons (dv 0) (acons (dv 1) (acons (dix ix_tup lr_ixT (ddget (hu1 hr) (dv 0) (dv 2)) di) anil)))) anil)))) di))))
  · rw [ctMost_eq] at h; obtain ⟨_, _, rfl, _⟩ := h; rfl
  · intro ss st ok ex h
    rw [ctMost_eq] at h
    obtain ⟨ws, ns, rfl, hin, k⟩ := h
    have h10 := hin.len
    walk_at "w"
    refine lc_pure ns .str (fun n => some (.int ((openAt ws ns (winOf ws n).1).length : Int))) (by rw [List.map_map]; rfl) ?_ ?_
    · intro i n D acc hx hD J
      obtain ⟨w, hw⟩ := hin.mem n (List.mem_of_getElem? hx)
      have hwo : winOf ws n = w := by unfold winOf; rw [hw]; rfl
      walk_at "ss"
      refine ⟨.inr n, .dat (winD w), rfl, by rw [getD_dic winD ws n, hw]; rfl, ?_⟩
      walk_at "dd"
      walk_at "w"
      refine Or.inl ?_
      rw [ctOpen_eq]
      refine ⟨ws, ns, w.1, rfl, hin, ?_⟩
      walk_at "w"
      exact lc_yes (by rw [sizeLine_eq]; omega) hx J (by rw [hwo, List.length_map, List.length_map])
    · rw [fm_some]
      walk_at "w"
      refine ⟨ns.map fun n => ((openAt ws ns (winOf ws n).1).length : Int), by rw [List.map_map, List.map_map]; rfl, ?_⟩
      walk_at "f"
      exact k
theorem ok_without_doubles (S : En K mg) : FnOk P w K mg base (L2.CX P w) 5 S.f_without_doubles S.d_without_doubles ["listing", "names"] (lowF K (ctSingles ⟨S.C_Book, S.C_Rule, S.C_Listing, S.C_Sending⟩)) := by
  refine fn_low _ S.F_without_doubles sc_without_doubles (fun ss st ok ex h => ?_) ?_ (fun cdv A outer s H E hr tk po => (bone (sret (dlc [("chosen", 2)] sc_without_doubles.nd (iL (dcall (dds := []) (ok_subsets S) (hr.mono (by decide)) S.g_subsets S.F_subsets.kp S.b_subsets .nil (fun _ => .nil) tk (acons (dv 1) (acons (dcb call_len_seq lc_lenL S.n_len PySem.boot_len (acons (dv 1) anil)) anil)))) (blkOk_by (N := ["listing", "names", "chosen"]) (sc := defScope s_without_doubles) (by decide +kernel)) (fun _ _ _ _ _ => (gwname 2 sc_without_doubles.nd)) (fun _ _ _ _ _ => (tsone (tval (dcall (dds := []) (ok_no_episode_twice S) (hr.mono (by decide)) S.g_no_episode_twice S.F_no_episode_twice.kp S.b_no_episode_twice .nil (fun _ => .nil) takes0 (acons (dv 0) (acons (dv 2) anil)))))) (fun _ _ _ _ _ => (dv 2))))))
  · rw [ctSingles_eq] at h; obtain ⟨_, _, rfl, _⟩ := h; rfl
  · intro ss st ok ex h
    rw [ctSingles_eq] at h
    obtain ⟨l, ns, rfl, hl, ha, hin, k⟩ := h
    have h10 := asc_ten hl ha hin
    have hsub : ∀ t ∈ subsN ns ns.length, t.length ≤ 10 ∧ ∀ n ∈ t, ∃ s, (n, s) ∈ l := fun t ht => by
      obtain ⟨h1, h2, h3⟩ := (subs_mem str_ord ns _ t).mp ht
      exact ⟨Nat.le_trans h1 h10, fun n hn => hin n (h3 n hn)⟩
    have hfew := subs_few ha h10 ns.length
    walk_at "w"
    refine Or.inl ⟨ns, ns.length, by simp only [List.length_map]; rfl, ha, h10, h10, ?_⟩
    walk_at "w"
    refine lc_pure (subsN ns ns.length) nsD (fun t => if apartN l t = true then some (nsD t) else none) (by rw [List.map_map]; rfl) ?_ ?_
    · intro i t D acc hx hD J
      obtain ⟨h1, h2⟩ := hsub t (List.mem_of_getElem? hx)
      walk_at "w"
      rw [ctApartN_eq]
      refine ⟨l, t, rfl, hl, h1, h2, ?_⟩
      walk_at "w"
      refine ⟨fun h => ?_, fun h => ?_⟩
      · walk_at "w"
        exact lc_yes (by rw [sizeLine_eq]; omega) hx J (if_pos h)
      · walk_at "w"
        exact lc_no hx J (if_neg (by rw [h]; decide))
    · rw [fm_if]
      walk_at "f"
      exact k
theorem ok_choices_among (S : En K mg) : FnOk P w K mg base (L2.CX P w) 6 S.f_choices_among S.d_choices_among ["listing", "windows", "receivers"] (lowF K (ctAmongC ⟨S.C_Book, S.C_Rule, S.C_Listing, S.C_Sending⟩)) := by
  refine fn_low _ S.F_choices_among sc_choices_among (fun ss st ok ex h => ?_) ?_ (fun cdv A outer s H E hr tk po => (bcons (sset 3 sc_choices_among.nd (dcall (dds := []) (ok_without_doubles S) (hr.mono (by decide)) S.g_without_doubles S.F_without_doubles.kp S.b_without_doubles .nil (fun _ => .nil) tk (acons (dv 0) (acons (dcb (call_sortedD rfl) lc_sortK S.n_sorted PyProof.Rows.boot_sorted (acons (dv 1) anil)) anil))))
  (bone (sret (dlc [("chosen", 4)] sc_choices_among.nd (iL (dv 3)) (blkOk_by (N := ["listing", "windows", "receivers", "tried", "chosen"]) (sc := defScope s_choices_among) (by decide +kernel)) (fun _ _ _ _ _ => (gwname 4 sc_choices_among.nd)) (fun _ _ _ _ _ => (tsone (tcmp op_le lr_le (dcall (dds := []) (ok_most_at_once S) (hr.mono (by decide)) S.g_most_at_once S.F_most_at_once.kp S.b_most_at_once .nil (fun _ => .nil) takes0 (acons (dv 1) (acons (dv 4) anil))) (dv 2) (nomark _)))) (fun _ _ _ _ _ => (dv 4)))))))
  · obtain ⟨_, _, _, rfl, _⟩ := h; rfl
  · rintro ss st ok ex ⟨b, l, k0, rfl, hb, hl, k⟩
    have hin : ∀ n ∈ wn b l, ∃ s, (n, s) ∈ l := fun n hn => by
      obtain ⟨w, hw, rfl⟩ := List.mem_map.mp hn
      exact ⟨w.s, (wished_mem.mp hw).1⟩
    have h10 := asc_ten hl (wn_asc (b := b) hl) hin
    have hfew := subs_few (wn_asc (b := b) hl) h10 (wn b l).length
    have hs : (singles l (wn b l)).length ≤ 1024 := Nat.le_trans (List.length_filter_le _ _) hfew
    walk_at "w"
    refine ⟨wn b l, by rw [← win_names, List.map_map, List.map_map, List.map_map]; rfl, by omega, fun ys hy hs => ?_⟩
    obtain rfl := sorted_is hy hs
    rw [show sortN (wn b l) = wn b l from sortN_same ((wn_asc (b := b) hl).imp fun {a c} h => of_decide_eq_true h)]
    walk_at "w"
    rw [ctSingles_eq]
    refine ⟨l, wn b l, rfl, hl, wn_asc hl, hin, ?_⟩
    walk_at "w"
    refine lc_pure (singles l (wn b l)) nsD (fun t => if decide (mostAt (windows b l) t ≤ (k0 : Int)) = true then some (nsD t) else none) (by rw [List.map_map]; rfl) ?_ ?_
    · intro i t D acc hx hD J
      have ht := (List.mem_filter.mp (List.mem_of_getElem? hx)).1
      obtain ⟨h1, h2, h3⟩ := (subs_mem str_ord (wn b l) _ t).mp ht
      walk_at "w"
      rw [ctMost_eq]
      refine ⟨windows b l, t, rfl, ⟨by omega, fun n hn => ?_⟩, ?_⟩
      · have := h3 n hn
        rw [← win_names] at this
        exact look_is this
      walk_at "w"
      refine ⟨fun h => ?_, fun h => ?_⟩
      · walk_at "w"
        exact lc_yes (by rw [sizeLine_eq]; omega) hx J (if_pos h)
      · walk_at "w"
        exact lc_no hx J (if_neg (by rw [show decide (mostAt (windows b l) t ≤ (k0 : Int)) = false from h]; decide))
    · rw [fm_if]
      walk_at "f"
      exact k
theorem ok_all_choices (S : En K mg) : FnOk P w K mg base (L2.CX P w) 7 S.f_all_choices S.d_all_choices ["book", "listing", "receivers"] (lowF K (ctChoices ⟨S.C_Book, S.C_Rule, S.C_Listing, S.C_Sending⟩)) := by
  refine fn_low _ S.F_all_choices sc_all_choices (fun ss st ok ex h => ?_) ?_ (fun cdv A outer s H E hr tk po => (bcons (sdrop (dcall (dds := []) (ok_check_receivers S) (hr.mono (by decide)) S.g_check_receivers S.F_check_receivers.kp S.b_check_receivers .nil (fun _ => .nil) tk (acons (dv 2) anil)))
  (bone (sret (dcall (dds := []) (ok_choices_among S) (hr.mono (by decide)) S.g_choices_among S.F_choices_among.kp S.b_choices_among .nil (fun _ => .nil) tk (acons (dv 1) (acons (dcall (dds := []) (ok_wished_windows S) (hr.mono (by decide)) S.g_wished_windows S.F_wished_windows.kp S.b_wished_windows .nil (fun _ => .nil) tk (acons (dv 0) (acons (dv 1) anil))) (acons (dv 2) anil))))))))
  · exact bl_len (m := 1) (fun _ => rfl) h
  · intro ss st ok ex h
    unfold ctChoices at h
    rw [ctBL_eq] at h
    obtain ⟨b, l, k0, rfl, hb, hl, ⟨hk1, hk2⟩, k⟩ := h
    walk_at "w"
    refine Or.inl ⟨k0, rfl, hk1, hk2, ?_⟩
    walk_at "w"
    refine bl_at () rfl hb hl trivial ?_
    walk_at "w"
    refine ⟨b, l, k0, rfl, hb, hl, ?_⟩
    walk_at "f"
    exact k
theorem ok_worth (S : En K mg) : FnOk P w K mg base (L2.CX P w) 5 S.f_worth S.d_worth ["book", "listing", "names"] (lowF K (ctWorth ⟨S.C_Book, S.C_Rule, S.C_Listing, S.C_Sending⟩)) := by
  refine fn_low _ S.F_worth sc_worth (fun ss st ok ex h => ?_) ?_ (fun cdv A outer s H E hr tk po => (bone (sret (dcb (cr_sum rfl) lc_sum S.n_sum PyProof.Rows.boot_sum (acons (dlc [("name", 3)] sc_worth.nd (iT (dv 2)) (blkOk_by (N := ["book", "listing", "names", "name"]) (sc := defScope s_worth) (by decide +kernel)) (fun _ _ _ _ _ => (gwname 3 sc_worth.nd)) (fun _ _ _ _ _ => tsnil) (fun _ _ _ _ _ => (dprop S.cl_Rule S.p_Rule_priority (ok_Rule_priority S) (hr.mono (by decide)) S.b_Rule_priority (dcall (dds := []) (ok_rule_for S) (hr.mono (by decide)) S.g_rule_for S.F_rule_for.kp S.b_rule_for .nil (fun _ => .nil) takes0 (acons (dv 0) (acons (dget S.sg_Listing_getitem S.fi_Listing_getitem S.fn_Listing_getitem (ok_Listing_getitem S) (hr.mono (by decide)) S.b_Listing_getitem takes0 (dv 1) (dv 3)) anil)))))) anil)))))
  · rw [ctWorth_eq] at h; obtain ⟨_, _, _, rfl, _⟩ := h; rfl
  · intro ss st ok ex h
    rw [ctWorth_eq] at h
    obtain ⟨b, l, t, rfl, hb, hl, h10, hin, k⟩ := h
    walk_at "w"
    refine lc_pure t .str (fun n => some (.int (prioAt b l n))) (by rw [List.map_map]; rfl) ?_ ?_
    · intro i n D acc hx hD J
      obtain ⟨w, hw, rfl⟩ := List.mem_map.mp (hin n (List.mem_of_getElem? hx))
      obtain ⟨hw1, hw2⟩ := wished_mem.mp hw
      walk_at "ss"
      refine ⟨rfl, ?_⟩
      rw [ctItem_eq]
      refine ⟨l, w.n, w.s, rfl, hl.get hw1, ?_⟩
      walk_at "w"
      rw [ctRuleFor_eq]
      refine ⟨b, w.s, rfl, hb, (hl.ok _ hw1).2, ?_⟩
      rw [hw2]
      walk_at "w"
      refine ⟨rfl, _, _, rfl, rfl, ?_⟩
      walk_at "w"
      exact lc_yes (by rw [sizeLine_eq]; omega) hx J (by rw [prioAt_is hl hw])
    · rw [fm_some]
      walk_at "w"
      refine ⟨t.map (prioAt b l), by rw [List.map_map, List.map_map]; rfl, ?_⟩
      walk_at "f"
      exact k
theorem ok_best_choice (S : En K mg) : FnOk P w K mg base (L2.CX P w) 8 S.f_best_choice S.d_best_choice ["book", "listing", "receivers"] (lowF K (ctBest ⟨S.C_Book, S.C_Rule, S.C_Listing, S.C_Sending⟩)) := by
  refine fn_low _ S.F_best_choice sc_best_choice (fun ss st ok ex h => ?_) ?_ (fun cdv A outer s H E hr tk po => (bcons (sset 3 sc_best_choice.nd (dcall (dds := []) (ok_all_choices S) (hr.mono (by decide)) S.g_all_choices S.F_all_choices.kp S.b_all_choices .nil (fun _ => .nil) tk (acons (dv 0) (acons (dv 1) (acons (dv 2) anil)))))
  (bcons (sset 4 sc_best_choice.nd (dcb (cr_minP rfl (hu65 hr)) lc_bestP S.n_min PyProof.Rows.boot_min (acons (dlc [("chosen", 5)] sc_best_choice.nd (iL (dv 3)) (blkOk_by (N := ["book", "listing", "receivers", "choices", "best", "chosen"]) (sc := defScope s_best_choice) (by decide +kernel)) (fun _ _ _ _ _ => (gwname 5 sc_best_choice.nd)) (fun _ _ _ _ _ => tsnil) (fun _ _ _ _ _ => (dtup (acons (dneg (dcall (dds := []) (ok_worth S) (hr.mono (by decide)) S.g_worth S.F_worth.kp S.b_worth .nil (fun _ => .nil) takes0 (acons (dv 0) (acons (dv 1) (acons (dv 5) anil))))) (acons (dneg (dcb call_len_seq lc_lenT S.n_len PySem.boot_len (acons (dv 5) anil))) (acons (dv 5) anil)))))) anil)))
  (bone (sret (dtup (acons (dneg (dix ix_tup lr_ixT (dv 4) di)) (acons (dix ix_tup lr_ixT (dv 4) di) anil))))))))
  · rw [ctBest_eq] at h; obtain ⟨_, _, _, rfl, _⟩ := h; rfl
  · intro ss st ok ex h
    rw [ctBest_eq] at h
    obtain ⟨b, l, k0, rfl, hb, hl, hk1, hk2, k⟩ := h
    walk_at "w"
    refine bl_at k0 rfl hb hl ⟨hk1, hk2⟩ ?_
    walk_at "w"
    have hfew : (choicesIn b l k0).length ≤ 1024 := choices_few hl k0
    refine lc_pure (choicesIn b l k0) nsD (fun t => some (bcD (bcRow b l t))) (by rw [List.map_map]; rfl) ?_ ?_
    · intro i t D acc hx hD J
      obtain ⟨h1, h2⟩ := choices_in hl (List.mem_of_getElem? hx)
      walk_at "ss"
      rw [ctWorth_eq]
      refine ⟨b, l, t, rfl, hb, hl, h1, h2, ?_⟩
      walk_at "w"
      refine ⟨by rw [sizeLine_eq]; show 3 ≤ _; omega, ?_⟩
      walk_at "w"
      exact lc_yes (by rw [sizeLine_eq]; omega) hx J (by unfold bcD bcRow; rw [List.length_map, List.length_map])
    · rw [fm_some]
      walk_at "w"
      cases hc : choicesIn b l k0 with
      | nil =>
        have := choices_nil b l k0
        rw [hc] at this
        cases this
      | cons c0 cs =>
        refine ⟨BcR, bcRow b l c0, cs.map (bcRow b l), bcD, bcP, ?_, bc_of, bc_alike _, Nat.le_trans (bc_depth _) (by decide), fun r hr hm => ?_⟩
        · rw [List.map_map, List.map_cons, List.map_cons, List.map_map]
          rfl
        obtain ⟨t, ht, rfl⟩ : ∃ t, t ∈ c0 :: cs ∧ r = bcRow b l t := by
          rcases List.mem_cons.mp hr with rfl | hr
          · exact ⟨c0, List.mem_cons_self, rfl⟩
          · obtain ⟨t, ht, rfl⟩ := List.mem_map.mp hr
            exact ⟨t, List.mem_cons_of_mem _ ht, rfl⟩
        rw [List.map_map] at hm
        have kb := k t ⟨c0, cs, hc, ht, hm⟩
        walk_at "w"
        refine ⟨_, rfl, ?_⟩
        walk_at "w"
        refine ⟨_, rfl, ?_⟩
        walk_at "zz"
        walk_at "f"
        have e : -(-worthOf b l t) = worthOf b l t := Int.neg_neg _
        rw [← e] at kb
        exact kb
theorem ok_Listing_init (S : En K mg) : FnOk P w K mg base (L2.CX P w) 3 S.f_Listing_init S.d_Listing_init ["self", "sendings"] (lowF K (ctListing ⟨S.C_Book, S.C_Rule, S.C_Listing, S.C_Sending⟩)) := by
  refine fn_low _ S.F_Listing_init sc_Listing_init (fun ss st ok ex h => ?_) ?_ (fun cdv A outer s H E hr tk po => (bcons (sset 2 sc_Listing_init.nd (dcb (cr_sortP (hu65 hr)) lc_sortP S.n_sorted PyProof.Rows.boot_sorted (acons (dlcK [("name", 3)] sc_Listing_init.nd (dv 1) (blkOk_by (N := ["self", "sendings", "wrong", "name", "names"]) (sc := defScope s_Listing_init) (by decide +kernel)) (fun _ _ _ _ _ => (gwname 3 sc_Listing_init.nd)) (fun _ _ _ _ _ => (tsone (tnot (tval (dcall (dds := []) (ok_is_word S) (hr.mono (by decide)) S.g_is_word S.F_is_word.kp S.b_is_word .nil (fun _ => .nil) takes0 (acons (dv 3) anil)))))) (fun _ _ _ _ _ => (dv 3))) anil)))
  (bcons (sif (ttruL (dv 2))
   (bone (sraise1 S.T_InvalidListing S.i_InvalidListing S.t_InvalidListing (ok_InvalidListing S) hr S.b_InvalidListing_init S.g_InvalidListing tk (acons (dix ix_list lr_ixL (dv 2) di) anil))) bnil)
  (bcons (sset 4 sc_Listing_init.nd (dcb (call_sortedD rfl) lc_sortK S.n_sorted PyProof.Rows.boot_sorted (acons (dv 1) anil)))
  (bcons (sif (tcmp op_gt lr_gt (dcb call_len_seq lc_lenL S.n_len PySem.boot_len (acons (dv 4) anil)) (dgl S.c_MOST_SENDINGS S.r_MOST_SENDINGS) (nomark _))
   (bone (sraise1 S.T_InvalidListing S.i_InvalidListing S.t_InvalidListing (ok_InvalidListing S) hr S.b_InvalidListing_init S.g_InvalidListing tk (acons (dix ix_list lr_ixL (dv 4) (dgl S.c_MOST_SENDINGS S.r_MOST_SENDINGS)) anil))) bnil)
  (bone (ssetF K (ddc [("name", 3)] sc_Listing_init.nd (iL (dv 4)) (blkOk_by (N := ["self", "sendings", "wrong", "name", "names"]) (sc := defScope s_Listing_init) (by decide +kernel)) (fun _ _ _ _ _ => (gwname 3 sc_Listing_init.nd)) (fun _ _ _ _ _ => tsnil) (fun _ _ _ _ _ => (dv 3)) (fun _ _ _ _ _ => (ddget (hu1 hr) (dv 1) (dv 3)))) (dv 0))))))))
  · rw [ctListing_eq] at h; obtain ⟨_, _, _, rfl, _⟩ := h; rfl
  · intro ss st ok ex h
    rw [ctListing_eq] at h
    obtain ⟨q, st0, l, rfl, rfl, hl, hn, hw, k⟩ := h
    have hnd : (l.map (·.1)).Nodup := hn.imp fun {a b} k e => by subst e; exact absurd k (List.lt_irrefl _)
    walk_at "w"
    refine lc_pure l (fun x => .str x.1) (fun _ => none) (by unfold keysD; rw [List.map_map]; rfl) ?_ ?_
    · intro i x D acc hx hD J
      have hwx := hw x (List.mem_of_getElem? hx)
      walk_at "w"
      refine ⟨.str x.1, rfl, word_len hwx, ?_⟩
      rw [show wordD (.str x.1) = true from hwx]
      walk_at "ss"
      exact lc_no hx J rfl
    rw [show l.filterMap (fun _ => (none : Option Dt)) = [] from by simp]
    walk_at "w"
    refine ⟨Str, [], .str, .str, rfl, fun b => .str b, fun d hd => (by cases hd), .inl fun d hd => (by cases hd), fun b hb => (by cases hb), ?_⟩
    rw [List.mergeSort_nil]
    walk_at "w"
    refine ⟨fun h => absurd h Bool.false_ne_true, fun _ => ?_⟩
    walk_at "w"
    refine ⟨l.map (·.1), by rw [List.map_map, List.map_map, List.map_map]; rfl, by rw [List.length_map]; exact Nat.lt_of_le_of_lt hl (by decide), fun ys hy hs => ?_⟩
    obtain rfl := sorted_is hy hs
    rw [sortN_same hn]
    walk_at "w"
    refine ⟨fun h => ?_, fun _ => ?_⟩
    · rw [List.length_map, List.length_map, List.length_map] at h
      have := of_decide_eq_true h
      omega
    walk_at "w"
    refine dc_pure l (fun x => .str x.1) (fun x => some ((Sum.inr x.1 : Key), x.2.d S.C_Sending)) (by rw [List.map_map, List.map_map]; rfl) ?_ ?_
    · intro i x D acc hx hD J
      walk_at "ss"
      refine ⟨.inr x.1, .dat (x.2.d S.C_Sending), rfl, by rw [getD_dic (Snd.d S.C_Sending) l x.1, look_mem hnd (List.mem_of_getElem? hx)]; rfl, ?_⟩
      exact dc_yes (Nat.le_trans hl (by decide)) (by rw [fm_some, List.map_map]; exact nodup_of hnd) hx J rfl rfl
    rw [fm_some]
    walk_at "w"
    refine ⟨0, _, _, _, rfl, S.cl_Listing, S.na_Listing_sendings, (by show (0 : Nat) < 1000; decide), rfl, ?_⟩
    walk_at "w"
    exact ⟨_, List.Sublist.refl _, k⟩
theorem ok_Listing_only (S : En K mg) : FnOk P w K mg base (L2.CX P w) 5 S.f_Listing_only S.d_Listing_only ["self", "names"] (lowF K (ctOnly ⟨S.C_Book, S.C_Rule, S.C_Listing, S.C_Sending⟩)) := by
  refine fn_low _ S.F_Listing_only sc_Listing_only (fun ss st ok ex h => ?_) ?_ (fun cdv A outer s H E hr tk po => (bone (sret (dmake (dds := []) S.mk_Listing (ok_Listing_init S) (hr.mono (by decide)) S.g_Listing S.b_Listing_init .nil (fun _ => .nil) tk (acons (ddc [("name", 2)] sc_Listing_only.nd (iT (dv 1)) (blkOk_by (N := ["self", "names", "name"]) (sc := defScope s_Listing_only) (by decide +kernel)) (fun _ _ _ _ _ => (gwname 2 sc_Listing_only.nd)) (fun _ _ _ _ _ => tsnil) (fun _ _ _ _ _ => (dv 2)) (fun _ _ _ _ _ => (dget S.sg_Listing_getitem S.fi_Listing_getitem S.fn_Listing_getitem (ok_Listing_getitem S) (hr.mono (by decide)) S.b_Listing_getitem takes0 (dv 0) (dv 2)))) anil)))))
  · rw [ctOnly_eq] at h; obtain ⟨_, _, rfl, _⟩ := h; rfl
  · intro ss st ok ex h
    rw [ctOnly_eq] at h
    obtain ⟨l, t, rfl, hl, ht, k⟩ := h
    have htn : t.Nodup := ht.asc.imp fun {a b} k e => by subst e; rw [str_ord.ir] at k; cases k
    have hfm : (t.filterMap fun n => (look l n).map fun s => ((Sum.inr n : Key), Snd.d S.C_Sending s)) = (subL l t).map fun x => (Sum.inr x.1, x.2.d S.C_Sending) := by
      unfold subL
      rw [List.map_filterMap]
      congr 1
      funext n
      rw [Option.map_map]
      rfl
    walk_at "w"
    refine dc_pure t (fun n => .str n) (fun n => (look l n).map fun s => ((Sum.inr n : Key), Snd.d S.C_Sending s)) (by rw [List.map_map]; rfl) ?_ ?_
    · intro i n D acc hx hD J
      obtain ⟨s, hs1, hs2⟩ := ht.look hl (List.mem_of_getElem? hx)
      walk_at "ss"
      refine ⟨rfl, ?_⟩
      rw [ctItem_eq]
      refine ⟨l, n, s, rfl, hs2, ?_⟩
      walk_at "w"
      exact dc_yes (Nat.le_trans (in_len ht) (Nat.le_trans hl.len (by rw [sizeLine_eq]; decide))) (by rw [hfm, List.map_map]; exact nodup_of (by rw [sub_keys hl ht]; exact htn)) hx J (by rw [hs2]; rfl) rfl
    rw [hfm]
    walk_at "w"
    intro q hq
    rw [ctListing_eq]
    have hok := sub_ok hl ht
    refine ⟨q, _, subL l t, rfl, rfl, hok.len, hok.nd, fun x hx => (hok.ok x hx).1, rfl, _, _, _, rfl, .cons .nil, ?_⟩
    exact ⟨_, _, .keep (List.Sublist.refl _), k⟩
theorem ok_windows_of (S : En K mg) : FnOk P w K mg base (L2.CX P w) 6 S.f_windows_of S.d_windows_of ["book", "listing", "names"] (lowF K (ctWinsOf ⟨S.C_Book, S.C_Rule, S.C_Listing, S.C_Sending⟩)) := by
  refine fn_low _ S.F_windows_of sc_windows_of (fun ss st ok ex h => ?_) ?_ (fun cdv A outer s H E hr tk po => (bcons (sset 3 sc_windows_of.nd (dmeth (dds := []) S.cl_Listing S.m_Listing_only (ok_Listing_only S) (hr.mono (by decide)) S.b_Listing_only .nil (fun _ => .nil) tk (dv 1) (acons (dv 2) anil)))
  (bone (sret (ddc [("name", 4)] sc_windows_of.nd (iT (dprop S.cl_Listing S.p_Listing_names (ok_Listing_names S) (hr.mono (by decide)) S.b_Listing_names (dv 3))) (blkOk_by (N := ["book", "listing", "names", "some", "name"]) (sc := defScope s_windows_of) (by decide +kernel)) (fun _ _ _ _ _ => (gwname 4 sc_windows_of.nd)) (fun _ _ _ _ _ => tsnil) (fun _ _ _ _ _ => (dv 4)) (fun _ _ _ _ _ => (dcall (dds := []) (ok_window S) (hr.mono (by decide)) S.g_window S.F_window.kp S.b_window .nil (fun _ => .nil) takes0 (acons (dv 0) (acons (dv 3) (acons (dv 4) anil))))))))))
  · rw [ctWinsOf_eq] at h; obtain ⟨_, _, _, rfl, _⟩ := h; rfl
  · intro ss st ok ex h
    rw [ctWinsOf_eq] at h
    obtain ⟨b, l, t, rfl, hb, hl, ht, hw, k⟩ := h
    have hok := sub_ok hl ht
    have h10 : t.length ≤ 10 := Nat.le_trans (in_len ht) hl.len
    have htn : t.Nodup := ht.asc.imp fun {a b} k e => by subst e; rw [str_ord.ir] at k; cases k
    walk_at "w"
    refine ⟨rfl, rfl, ?_⟩
    walk_at "w"
    rw [ctOnly_eq]
    refine ⟨l, t, rfl, hl, ht, ?_⟩
    walk_at "w"
    refine ⟨rfl, ?_⟩
    rw [ctNames_eq]
    refine ⟨subL l t, rfl, ?_⟩
    walk_at "w"
    refine dc_pure t (fun n => .str n) (fun n => some ((Sum.inr n : Key), winD (winOf (windows b l) n))) (by rw [← sub_keys hl ht, List.map_map, List.map_map, sub_keys hl ht]; rfl) ?_ ?_
    · intro i n D acc hx hD J
      obtain ⟨w, hw1, rfl⟩ := List.mem_map.mp (hw n (List.mem_of_getElem? hx))
      walk_at "ss"
      refine bl_at w rfl hb hok (sub_wished hl hw1 (List.mem_of_getElem? hx)) ?_
      rw [← win_is hl hw1]
      exact dc_yes (by rw [sizeLine_eq]; omega) (by rw [fm_some, List.map_map]; unfold List.Nodup; rw [List.pairwise_map]; exact htn.imp fun {a b} k e => k (Sum.inr.inj e)) hx J rfl rfl
    rw [fm_some]
    walk_at "f"
    unfold dicD winsOf at k
    rw [List.map_map] at k
    exact k
theorem ok_fewest_own (S : En K mg) : FnOk P w K mg base (L2.CX P w) 10 S.f_fewest_own S.d_fewest_own ["book", "listing"] (lowF K (ctFewOwn ⟨S.C_Book, S.C_Rule, S.C_Listing, S.C_Sending⟩)) := by
  refine fn_low _ S.F_fewest_own sc_fewest_own (fun ss st ok ex h => ?_) ?_ (fun cdv A outer s H E hr tk po => (bone (sret (dcb (cr_minP rfl (hu65 hr)) lc_bestP S.n_min PyProof.Rows.boot_min (acons (dlc [("many", 2)] sc_fewest_own.nd (iR2 S.n_range (acons di (acons (dop op_add lr_add (dgl S.c_MOST_RECEIVERS S.r_MOST_RECEIVERS) di) anil))) (blkOk_by (N := ["book", "listing", "many"]) (sc := defScope s_fewest_own) (by decide +kernel)) (fun _ _ _ _ _ => (gwname 2 sc_fewest_own.nd)) (fun _ _ _ _ _ => (tsone (tnot (ttruL (dcall (dds := []) (ok_lost S) (hr.mono (by decide)) S.g_lost S.F_lost.kp S.b_lost .nil (fun _ => .nil) takes0 (acons (dv 0) (acons (dv 1) (acons (dv 2) anil)))))))) (fun _ _ _ _ _ => (dv 2))) anil)))))
  · rw [ctFewOwn_eq] at h; obtain ⟨_, _, rfl, _⟩ := h; rfl
  · intro ss st ok ex h
    rw [ctFewOwn_eq] at h
    obtain ⟨b, l, rfl, hb, hl, k⟩ := h
    walk_at "w"
    refine ⟨⟨by decide, by decide, by decide, by decide⟩, ?_⟩
    walk_at "w"
    refine lc_pure (List.range 10) (fun i => .int (1 + (i : Int))) (fun i => if (lost b l (1 + i)).isEmpty = true then some (.int (1 + (i : Int))) else none) (by unfold rngS; simp) ?_ ?_
    · intro i j D acc hx hD J
      have hj : j < 10 := List.mem_range.mp (List.mem_of_getElem? hx)
      walk_at "w"
      refine Or.inl (bl_at (1 + j) (by show [dI (1 + (j : Int))] = [dI ((1 + j : Nat) : Int)]; rw [show ((1 + j : Nat) : Int) = 1 + (j : Int) from by omega]) hb hl ⟨by omega, by omega⟩ ?_)
      walk_at "w"
      cases he : lost b l (1 + j) with
      | nil =>
        walk_at "ss"
        exact lc_yes (by rw [List.length_range, sizeLine_eq]; omega) hx J (by rw [he]; rfl)
      | cons a as =>
        refine ⟨(fun h => by cases h), fun _ => ?_⟩
        exact lc_no hx J (by rw [he]; rfl)
    rw [fm_if (fun i : Nat => (lost b l (1 + i)).isEmpty)]
    walk_at "w"
    have h10 := lost_none (b := b) hl (k := 10) (wishes_len hl)
    cases hf : (List.range 10).filter fun i => (lost b l (1 + i)).isEmpty with
    | nil =>
      have : (9 : Nat) ∈ (List.range 10).filter fun i => (lost b l (1 + i)).isEmpty := List.mem_filter.mpr ⟨by decide, by rw [show 1 + 9 = 10 from rfl, h10]; rfl⟩
      rw [hf] at this
      cases this
    | cons c0 cs =>
      refine ⟨Int, 1 + (c0 : Int), cs.map (fun i : Nat => 1 + (i : Int)), .int, .int, ?_, fun i => .int i, ints_alike _, Nat.le_trans (Nat.le_of_eq (PySem.W.depth_ints _)) (by decide), fun m hr hm => ?_⟩
      · rw [List.map_cons, List.map_cons, List.map_map, List.map_cons, List.map_map]
        rfl
      rw [PySem.W.minD_ints] at hm
      have hm : m = (cs.map fun i : Nat => 1 + (i : Int)).foldl min (1 + (c0 : Int)) := by cases hm; rfl
      obtain ⟨m1, m2⟩ := min_le (cs.map fun i : Nat => 1 + (i : Int)) (1 + (c0 : Int))
      rw [← hm] at m1 m2
      obtain ⟨i, hi, rfl⟩ : ∃ i ∈ c0 :: cs, m = 1 + (i : Int) := by
        rcases List.mem_cons.mp hr with e | hr
        · exact ⟨c0, List.mem_cons_self, e⟩
        · obtain ⟨i, hi, e⟩ := List.mem_map.mp hr
          exact ⟨i, List.mem_cons_of_mem _ hi, e.symm⟩
      rw [← hf] at hi
      obtain ⟨hi1, hi2⟩ := List.mem_filter.mp hi
      have hi1 := List.mem_range.mp hi1
      have kb := k (1 + i) (by omega) (by omega) (List.isEmpty_iff.mp hi2) fun j j1 j2 z => by
        have hj : (j - 1) ∈ c0 :: cs := by
          rw [← hf]
          refine List.mem_filter.mpr ⟨List.mem_range.mpr (by omega), ?_⟩
          rw [show 1 + (j - 1) = j from by omega, z]
          rfl
        rcases List.mem_cons.mp hj with e | hj
        · omega
        · have := m2 _ (List.mem_map.mpr ⟨j - 1, hj, rfl⟩)
          omega
      rw [show ((1 + i : Nat) : Int) = 1 + (i : Int) from by omega] at kb
      walk_at "f"
      exact kb
theorem ok_busiest (S : En K mg) : FnOk P w K mg base (L2.CX P w) 7 S.f_busiest S.d_busiest ["book", "listing", "names"] (lowF K (ctBusiest ⟨S.C_Book, S.C_Rule, S.C_Listing, S.C_Sending⟩)) := by
  refine fn_low _ S.F_busiest sc_busiest (fun ss st ok ex h => ?_) ?_ (fun cdv A outer s H E hr tk po => (bcons (sset 3 sc_busiest.nd (dcall (dds := []) (ok_windows_of S) (hr.mono (by decide)) S.g_windows_of S.F_windows_of.kp S.b_windows_of .nil (fun _ => .nil) tk (acons (dv 0) (acons (dv 1) (acons (dv 2) anil)))))
  (bcons (sset 4 sc_busiest.nd (dtup (acons di (acons (dtup anil) anil))))
  (bcons (sfor po (iL (dcall (dds := []) (ok_begin_then_name S) (hr.mono (by decide)) S.g_begin_then_name S.F_begin_then_name.kp S.b_begin_then_name .nil (fun _ => .nil) tk (acons (dv 3) (acons (dv 3) anil)))) (gname 5 sc_busiest.nd)
   (bcons (sset 6 sc_busiest.nd (dix ix_tup lr_ixT (ddget (hu1 hr) (dv 3) (dv 5)) di))
  (bcons (sset 7 sc_busiest.nd (dcall (dds := []) (ok_open_at S) (hr.mono (by decide)) S.g_open_at S.F_open_at.kp S.b_open_at .nil (fun _ => .nil) tk (acons (dv 3) (acons (dv 3) (acons (dv 6) anil)))))
  (bone (sif (tcmp op_gt lr_gt (dcb call_len_seq lc_lenL S.n_len PySem.boot_len (acons (dv 7) anil)) (dcb call_len_seq lc_lenT S.n_len PySem.boot_len (acons (dix ix_tup lr_ixT (dv 4) di) anil)) (nomark _))
   (bone (sset 4 sc_busiest.nd (dtup (acons (dv 6) (acons (dct call_tuple_of lc_tup S.n_tuple PyProof.Rows.boot_tuple (acons (dv 7) anil)) anil))))) bnil)))))
  (bone (sret (dv 4)))))))
  · rw [ctBusiest_eq] at h; obtain ⟨_, _, _, rfl, _⟩ := h; rfl
  · intro ss st ok ex h
    rw [ctBusiest_eq] at h
    obtain ⟨b, l, t, rfl, hb, hl, ht, hw, k⟩ := h
    have h10 : t.length ≤ 10 := Nat.le_trans (in_len ht) hl.len
    have nd := wins_nd (b := b) ht
    have hwl : (winsOf b l t).length ≤ 10 := by rw [wins_len]; exact h10
    walk_at "w"
    rw [ctWinsOf_eq]
    refine ⟨b, l, t, rfl, hb, hl, ht, hw, ?_⟩
    walk_at "zz"
    refine Or.inl ?_
    rw [ctBtn_eq]
    refine ⟨winsOf b l t, rfl, hwl, nd, ?_⟩
    walk_at "w"
    refine loop_fold (btn (winsOf b l t)) (fun n => .str n) (busyStep (winsOf b l t) ((winsOf b l t).map (·.1))) (0, []) (fun acc Δ' st' => ∃ v5 v6 v7, Δ' = [.dat (b.d ⟨S.C_Book, S.C_Rule, S.C_Listing, S.C_Sending⟩), .dat (lstD ⟨S.C_Book, S.C_Rule, S.C_Listing, S.C_Sending⟩ l), .dat (nsD t), .dat (dicD winD (winsOf b l t)), .dat (busyD acc), v5, v6, v7] ∧ st' = st) (by rw [List.map_map]; rfl) ⟨.un, .un, .un, rfl, rfl⟩ ?_ ?_
    · rintro pre n post acc Δ' st' has hs ⟨v5, v6, v7, rfl, rfl⟩
      have hin : n ∈ (winsOf b l t).map (·.1) := (btn_perm _).mem_iff.mp (by rw [has]; simp)
      obtain ⟨w, hlk⟩ := look_is hin
      have hwo : winOf (winsOf b l t) n = w := by unfold winOf; rw [hlk]; rfl
      walk_at "w"
      refine ⟨.inr n, .dat (winD w), rfl, by rw [getD_dic winD (winsOf b l t) n, hlk]; rfl, ?_⟩
      walk_at "dd"
      walk_at "w"
      refine Or.inr ⟨winsOf b l t, w.1, rfl, hwl, nd, ?_⟩
      walk_at "dd"
      walk_at "w"
      rw [List.length_map, List.length_map, List.length_map, List.length_map]
      have hst : busyStep (winsOf b l t) ((winsOf b l t).map (·.1)) acc n = if acc.2.length < (openAt (winsOf b l t) ((winsOf b l t).map (·.1)) w.1).length then (w.1, openAt (winsOf b l t) ((winsOf b l t).map (·.1)) w.1) else acc := by unfold busyStep; rw [hwo]
      rw [hst]
      refine ⟨fun h => ?_, fun h => ?_⟩
      · have h2 : acc.2.length < (openAt (winsOf b l t) ((winsOf b l t).map (·.1)) w.1).length := by have := of_decide_eq_true h; omega
        rw [if_pos h2]
        walk_at "yy"
        exact ⟨_, _, _, rfl, rfl⟩
      · have h2 : ¬ acc.2.length < (openAt (winsOf b l t) ((winsOf b l t).map (·.1)) w.1).length := by have := of_decide_eq_false h; omega
        rw [if_neg h2]
        walk_at "w"
        exact ⟨_, _, _, rfl, rfl⟩
    · rintro Δ' st' ⟨v5, v6, v7, rfl, rfl⟩
      rw [show (btn (winsOf b l t)).foldl (busyStep (winsOf b l t) ((winsOf b l t).map (·.1))) (0, []) = busyOf (winsOf b l t) from rfl]
      walk_at "f"
      exact k
theorem ok_recorded_minutes (S : En K mg) : FnOk P w K mg base (L2.CX P w) 9 S.f_recorded_minutes S.d_recorded_minutes ["book", "listing", "receivers"] (lowF K (ctRecMinX ⟨S.C_Book, S.C_Rule, S.C_Listing, S.C_Sending⟩ S.C_InvalidNumber)) := by
  refine fn_low _ S.F_recorded_minutes sc_recorded_minutes (fun ss st ok ex h => ?_) ?_ (fun cdv A outer s H E hr tk po => (bcons (sset 3 sc_recorded_minutes.nd (dcall (dds := []) (ok_own_plan S) (hr.mono (by decide)) S.g_own_plan S.F_own_plan.kp S.b_own_plan .nil (fun _ => .nil) tk (acons (dv 0) (acons (dv 1) (acons (dv 2) anil)))))
  (bcons (sset 4 sc_recorded_minutes.nd (dcall (dds := []) (ok_wished_windows S) (hr.mono (by decide)) S.g_wished_windows S.F_wished_windows.kp S.b_wished_windows .nil (fun _ => .nil) tk (acons (dv 0) (acons (dv 1) anil))))
  (bone (sret (ddc [("name", 5)] sc_recorded_minutes.nd (iL (dcall (dds := []) (ok_begin_then_name S) (hr.mono (by decide)) S.g_begin_then_name S.F_begin_then_name.kp S.b_begin_then_name .nil (fun _ => .nil) tk (acons (dv 4) (acons (dv 3) anil)))) (blkOk_by (N := ["book", "listing", "receivers", "plan", "windows", "name"]) (sc := defScope s_recorded_minutes) (by decide +kernel)) (fun _ _ _ _ _ => (gwname 5 sc_recorded_minutes.nd)) (fun _ _ _ _ _ => tsnil) (fun _ _ _ _ _ => (dv 5)) (fun _ _ _ _ _ => (dop op_sub lr_sub (dix ix_tup lr_ixT (ddget (hu1 hr) (dv 4) (dv 5)) di) (dix ix_tup lr_ixT (ddget (hu1 hr) (dv 4) (dv 5)) di)))))))))
  · rcases h with h | ⟨_, _, _, rfl, _⟩; exact bl_len (m := 1) (fun _ => rfl) h; rfl
  · rintro ss st ok ex (h | ⟨b, l, d, rfl, hd, k⟩)
    · unfold ctRecMin at h
      rw [ctBL_eq] at h
      obtain ⟨b, l, k0, rfl, hb, hl, ⟨hk1, hk2⟩, k⟩ := h
      have hok := sizes_ok hb hl k0
      have hkn := hok.nd
      have hl10 := hok.len
      unfold sizesOf at hkn hl10
      rw [List.length_map] at hl10
      rw [List.map_map] at hkn
      have hwin := own_wn (b := b) hl (k := k0)
      obtain ⟨u, hu⟩ : ∃ u, u = (ownPlan b l k0).map (·.1) := ⟨_, rfl⟩
      rw [← hu] at hkn hl10 hwin
      have hbt : btn ((ownPlan b l k0).map fun x => (x.1, winOf (windows b l) x.1)) = btn (winsOf b l u) := by
        rw [hu]
        unfold winsOf
        rw [List.map_map]
        rfl
      have hbm : ∀ n ∈ btn (winsOf b l u), n ∈ u := fun n hn => by
        have := (btn_perm (winsOf b l u)).mem_iff.mp hn
        rwa [wins_keys] at this
      unfold sizesOf at k
      rw [← hu] at k
      walk_at "w"
      refine Or.inl (bl_at k0 rfl hb hl ⟨hk1, hk2⟩ ?_)
      walk_at "w"
      refine bl_at () rfl hb hl trivial ?_
      walk_at "w"
      refine Or.inr ⟨windows b l, ownPlan b l k0, rfl, own_len hl k0, own_nd hl k0, fun x hx => ?_, ?_⟩
      · obtain ⟨w, hw, e, _⟩ := own_wish hl hx
        exact ⟨w.win, by rw [← e]; exact win_look hl hw⟩
      rw [hbt]
      walk_at "w"
      refine dc_pure (btn (winsOf b l u)) (fun n => .str n) (fun n => some (.inr n, .int ((winOf (windows b l) n).2 - (winOf (windows b l) n).1))) (by rw [List.map_map]; rfl) ?_ ?_
      · intro i n D acc hx hD J
        obtain ⟨w, hw, e⟩ := List.mem_map.mp (hwin n (hbm n (List.mem_of_getElem? hx)))
        have e : w.n = n := e
        have hlk : look (windows b l) n = some w.win := by rw [← e]; exact win_look hl hw
        have hwo : winOf (windows b l) n = w.win := by unfold winOf; rw [hlk]; rfl
        walk_at "ss"
        refine ⟨.inr n, .dat (winD w.win), rfl, by rw [getD_dic winD (windows b l) n, hlk]; rfl, ?_⟩
        walk_at "w"
        refine ⟨_, rfl, ?_⟩
        walk_at "w"
        refine ⟨.inr n, .dat (winD w.win), rfl, by rw [getD_dic winD (windows b l) n, hlk]; rfl, ?_⟩
        walk_at "w"
        refine ⟨_, rfl, ?_⟩
        exact dc_yes (by rw [sizeLine_eq]; omega) (by
          rw [show (fun n => some ((Sum.inr n : Key), Dt.int ((winOf (windows b l) n).2 - (winOf (windows b l) n).1))) = some ∘ fun n => ((Sum.inr n : Key), Dt.int ((winOf (windows b l) n).2 - (winOf (windows b l) n).1)) from rfl, List.filterMap_eq_map, List.map_map]
          have h9 := List.pairwise_map.mp hkn
          exact List.pairwise_map.mpr (h9.imp fun {a c} h z => h (Sum.inr.inj z))) hx J (by rw [hwo]) rfl
      · walk_at "f"
        rw [show (fun n => some ((Sum.inr n : Key), Dt.int ((winOf (windows b l) n).2 - (winOf (windows b l) n).1))) = some ∘ fun n => ((Sum.inr n : Key), Dt.int ((winOf (windows b l) n).2 - (winOf (windows b l) n).1)) from rfl, List.filterMap_eq_map]
        unfold dicD at k
        rw [List.map_map] at k
        exact k
    · walk_at "w"
      exact Or.inr ⟨b, l, d, rfl, hd, ⟨st, List.Sublist.refl _, k⟩⟩
theorem ok_minutes_of (S : En K mg) : FnOk P w K mg base (L2.CX P w) 1 S.f_minutes_of S.d_minutes_of ["sizes", "names"] (lowF K ctMins) := by
  refine fn_low _ S.F_minutes_of sc_minutes_of (fun ss st ok ex h => ?_) ?_ (fun cdv A outer s H E hr tk po => (bone (sret (dcb (cr_sum rfl) lc_sum S.n_sum PyProof.Rows.boot_sum (acons (deither (dlc [("name", 2)] sc_minutes_of.nd (iL (dv 1)) (blkOk_by (N := ["sizes", "names", "name"]) (sc := defScope s_minutes_of) (by decide +kernel)) (fun _ _ _ _ _ => (gwname 2 sc_minutes_of.nd)) (fun _ _ _ _ _ => tsnil) (fun _ _ _ _ _ => (ddget (hu1 hr) (dv 0) (dv 2)))) (dlcO [("name", 2)] sc_minutes_of.nd (dv 1) (blkOk_by (N := ["sizes", "names", "name"]) (sc := defScope s_minutes_of) (by decide +kernel)) (fun _ _ _ _ _ => (gwname 2 sc_minutes_of.nd)) (fun _ _ _ _ _ => tsnil) (fun _ _ _ _ _ => (ddget (hu1 hr) (dv 0) (dv 2))))) anil)))))
  · (repeat (first | (obtain ⟨rfl, _⟩ := h; rfl) | (obtain ⟨_, h⟩ := h)))
  · rintro ss st ok ex ⟨sz, ns, x, rfl, hx, hl, hin, k⟩
    have hg : ∀ n ∈ ns, getD ((sz.map fun x => ((Sum.inr x.1 : Key), Dt.int x.2)).map fun kv => (kv.1, Sv.dat kv.2)) (.inr n) = some (.dat (.int ((look sz n).getD 0))) := fun n hn => by
      obtain ⟨v, hv⟩ := hin n hn
      rw [getD_dic Dt.int sz n, hv]
      rfl
    rcases hx with rfl | ⟨q, j, rfl, hj⟩
    · walk_at "w"
      refine Or.inl ?_
      walk_at "w"
      refine lc_pure ns .str (fun n => some (.int ((look sz n).getD 0))) (by rw [List.map_map]; rfl) ?_ ?_
      · intro i n D acc hi hD J
        walk_at "ss"
        refine ⟨.inr n, _, rfl, hg n (List.mem_of_getElem? hi), ?_⟩
        walk_at "w"
        exact lc_yes (by rw [sizeLine_eq]; omega) hi J rfl
      rw [fm_some]
      walk_at "w"
      refine ⟨ns.map fun n => (look sz n).getD 0, by rw [List.map_map, List.map_map]; rfl, ?_⟩
      walk_at "f"
      exact k
    · walk_at "w"
      refine Or.inr ?_
      walk_at "w"
      refine ⟨j, _, hj, ?_⟩
      refine lcO_pure ns .str (fun n => some (.int ((look sz n).getD 0))) rfl hj ?_ ?_
      · intro i n D acc hi hD J
        walk_at "ss"
        refine ⟨.inr n, _, rfl, hg n (List.mem_of_getElem? hi), ?_⟩
        walk_at "w"
        exact lc_yes (by rw [sizeLine_eq]; omega) hi J rfl
      rw [fm_some]
      walk_at "w"
      refine ⟨ns.map fun n => (look sz n).getD 0, by rw [List.map_map, List.map_map]; rfl, ?_⟩
      walk_at "f"
      exact k
theorem ok_among (S : En K mg) : FnOk P w K mg base (L2.CX P w) 1 S.f_among S.d_among ["names", "others"] (lowF K ctAmong2) := by
  refine fn_low _ S.F_among sc_among (fun ss st ok ex h => ?_) ?_ (fun cdv A outer s H E hr tk po => (bone (sret (deither (dlc [("name", 2)] sc_among.nd (iL (dv 0)) (blkOk_by (N := ["names", "others", "name"]) (sc := defScope s_among) (by decide +kernel)) (fun _ _ _ _ _ => (gwname 2 sc_among.nd)) (fun _ _ _ _ _ => (tsone (tsIn hr (dv 2) (dv 1)))) (fun _ _ _ _ _ => (dv 2))) (dlcO [("name", 2)] sc_among.nd (dv 0) (blkOk_by (N := ["names", "others", "name"]) (sc := defScope s_among) (by decide +kernel)) (fun _ _ _ _ _ => (gwname 2 sc_among.nd)) (fun _ _ _ _ _ => (tsone (tsIn hr (dv 2) (dv 1)))) (fun _ _ _ _ _ => (dv 2)))))))
  · (repeat (first | (obtain ⟨rfl, _⟩ := h; rfl) | (obtain ⟨_, h⟩ := h)))
  · rintro ss st ok ex ⟨ns, t, x, rfl, hx, hl, hw, ht, k⟩
    rcases hx with rfl | ⟨q, j, rfl, hj⟩
    · walk_at "w"
      refine Or.inl ?_
      walk_at "w"
      refine lc_pure ns .str (fun n => if isIn t n = true then some (.str n) else none) (by rw [List.map_map]; rfl) ?_ ?_
      · intro i n D acc hi hD J
        have hn := hw n (List.mem_of_getElem? hi)
        walk_at "ss"
        refine ⟨txtP n, t.map txtP, txt_of _, txts_of _, txt_shaped _ hn, txts_lay _ ht, ?_⟩
        rw [txt_any]
        refine ⟨fun h => ?_, fun h => ?_⟩
        · exact lc_yes (by rw [sizeLine_eq]; omega) hi J (if_pos h)
        · exact lc_no hi J (if_neg (by unfold isIn; have h : decide (n ∈ t) = false := h; rw [h]; decide))
      rw [fm_if]
      walk_at "f"
      exact k
    · walk_at "w"
      refine Or.inr ?_
      walk_at "w"
      refine ⟨j, _, hj, ?_⟩
      refine lcO_pure ns .str (fun n => if isIn t n = true then some (.str n) else none) rfl hj ?_ ?_
      · intro i n D acc hi hD J
        have hn := hw n (List.mem_of_getElem? hi)
        walk_at "ss"
        refine ⟨txtP n, t.map txtP, txt_of _, txts_of _, txt_shaped _ hn, txts_lay _ ht, ?_⟩
        rw [txt_any]
        refine ⟨fun h => ?_, fun h => ?_⟩
        · exact lc_yes (by rw [sizeLine_eq]; omega) hi J (if_pos h)
        · exact lc_no hi J (if_neg (by unfold isIn; have h : decide (n ∈ t) = false := h; rw [h]; decide))
      rw [fm_if]
      walk_at "f"
      exact k
theorem ok_on_disk (S : En K mg) : FnOk P w K mg base (L2.CX P w) 10 S.f_on_disk S.d_on_disk ["book", "listing", "receivers", "minutes", "protected"] (lowF K (ctDisk ⟨S.C_Book, S.C_Rule, S.C_Listing, S.C_Sending⟩)) := by
  refine fn_low _ S.F_on_disk sc_on_disk (fun ss st ok ex h => ?_) ?_ (fun cdv A outer s H E hr tk po => (bcons (sset 5 sc_on_disk.nd (dcall (dds := []) (ok_recorded_minutes S) (hr.mono (by decide)) S.g_recorded_minutes S.F_recorded_minutes.kp S.b_recorded_minutes .nil (fun _ => .nil) tk (acons (dv 0) (acons (dv 1) (acons (dv 2) anil)))))
  (bcons (sdrop (dcall (dds := []) (ok_check_number S) (hr.mono (by decide)) S.g_check_number S.F_check_number.kp S.b_check_number .nil (fun _ => .nil) tk (acons (dv 3) (acons di (acons (dgl S.c_MOST_MINUTES S.r_MOST_MINUTES) anil)))))
  (bcons (spar3 6 7 8 sc_on_disk.nd (acons (dlstO anil) (acons (dlstO anil) (acons (dlstO anil) anil))))
  (bcons (sforK po tk (dv 5) (gname 9 sc_on_disk.nd)
   (fun V tk => (bone (sif (tcmp op_gt lr_gt (ddget (hu1 hr) (dv 5) (dv 9)) (dop op_sub lr_sub (dv 3) (dcall (dds := []) (ok_minutes_of S) (hr.mono (by decide)) S.g_minutes_of S.F_minutes_of.kp S.b_minutes_of .nil (fun _ => .nil) tk (acons (dv 5) (acons (dcall (dds := []) (ok_among S) (hr.mono (by decide)) S.g_among S.F_among.kp S.b_among .nil (fun _ => .nil) tk (acons (dv 6) (acons (dv 4) anil))) anil)))) (nomark _))
   (bone (sapp (dv 8) (dv 9))) (bcons (swhile po (tcmp op_gt lr_gt (dop op_add lr_add (dcall (dds := []) (ok_minutes_of S) (hr.mono (by decide)) S.g_minutes_of S.F_minutes_of.kp S.b_minutes_of .nil (fun _ => .nil) tk (acons (dv 5) (acons (dv 6) anil))) (ddget (hu1 hr) (dv 5) (dv 9))) (dv 3) (nomark _))
   (bcons (sset 10 sc_on_disk.nd (dix ix_list lr_ixL (dlcO [("other", 11)] sc_on_disk.nd (dv 6) (blkOk_by (N := ["book", "listing", "receivers", "minutes", "protected", "sizes", "kept", "deleted", "refused", "name", "earliest", "other"]) (sc := defScope s_on_disk) (by decide +kernel)) (fun _ _ _ _ _ => (gwname 11 sc_on_disk.nd)) (fun _ _ _ _ _ => (tsone (tsNi hr (dv 11) (dv 4)))) (fun _ _ _ _ _ => (dv 11))) di))
  (bcons (srem (dv 6) (dv 10))
  (bone (sapp (dv 7) (dv 10))))))
  (bone (sapp (dv 6) (dv 9))))))))
  (bone (sret (dtup (acons (dpub (dv 6)) (acons (dpub (dv 7)) (acons (dpub (dv 8)) anil)))))))))))
  · exact bl_len (m := 3) (fun _ => rfl) h
  · intro ss st ok ex h
    unfold ctDisk at h
    rw [ctBL_eq] at h
    obtain ⟨b, l, ⟨k0, m, t⟩, rfl, hb, hl, ⟨⟨hk1, hk2⟩, ⟨hm1, hm2⟩, ht⟩, k⟩ := h
    have hok := sizes_ok hb hl k0
    obtain ⟨sz, hsz⟩ : ∃ sz, sz = sizesOf b l k0 := ⟨_, rfl⟩
    rw [← hsz] at hok
    dsimp only at k hm1 hm2 ht
    rw [← hsz] at k
    walk_at "w"
    refine Or.inl (bl_at k0 rfl hb hl ⟨hk1, hk2⟩ ?_)
    rw [← hsz]
    walk_at "w"
    refine ⟨m, 1, 1000000, rfl, hm1, hm2, ?_⟩
    walk_at "w"
    refine ⟨Nat.zero_le _, ?_⟩
    walk_at "w"
    intro pk hpk
    walk_at "w"
    refine ⟨Nat.zero_le _, ?_⟩
    walk_at "w"
    intro pd hpd
    walk_at "w"
    refine ⟨Nat.zero_le _, ?_⟩
    walk_at "w"
    intro pr hpr
    walk_at "w"
    have hks : ∀ n ∈ sz.map (·.1), isWord n = true ∧ ∃ v, look sz n = some v := fun n hn => by
      obtain ⟨x, hx, rfl⟩ := List.mem_map.mp hn
      exact ⟨hok.word x hx, x.2, hok.look hx⟩
    refine loop_fold sz (fun x => .str x.1) (dkStep sz t m) ⟨[], [], []⟩ (fun a Δ' st' => ∃ v9 v10 v11, Δ' = [.dat (b.d ⟨S.C_Book, S.C_Rule, S.C_Listing, S.C_Sending⟩), .dat (lstD ⟨S.C_Book, S.C_Rule, S.C_Listing, S.C_Sending⟩ l), dI (k0 : Int), dI m, .dat (nsD t), .dat (dicD .int sz), .own pk, .own pd, .own pr, v9, v10, v11] ∧ st' = (pr, Ob.lst (a.ref.map fun n => .dat (.str n))) :: (pd, Ob.lst (a.del.map fun n => .dat (.str n))) :: (pk, Ob.lst (a.kept.map fun n => .dat (.str n))) :: st) (by unfold keysD; rw [List.map_map]; rfl) ⟨.un, .un, .un, rfl, rfl⟩ ?_ ?_
    · rintro pre x post a Δ' st' has hs ⟨v9, v10, v11, rfl, rfl⟩
      have inv : DkI sz pre a := by rw [hs]; exact disk_pre sz t m pre
      have hxs : x ∈ sz := by rw [has]; simp
      have hpre : ∀ n ∈ pre.map (·.1), n ∈ sz.map (·.1) := fun n hn => by rw [has, List.map_append]; exact List.mem_append_left _ hn
      have hprel : pre.length ≤ 9 := by
        have h1 := congrArg List.length has
        rw [List.length_append, List.length_cons] at h1
        have := hok.len
        omega
      have hxg : getD ((sz.map fun x => ((Sum.inr x.1 : Key), Dt.int x.2)).map fun kv => (kv.1, Sv.dat kv.2)) (.inr x.1) = some (.dat (.int x.2)) := by
        rw [getD_dic Dt.int sz x.1, hok.look hxs]
        rfl
      have hkept : ∀ n ∈ a.kept, isWord n = true ∧ ∃ v, look sz n = some v := fun n hn => hks n (hpre n (inv.kept.subset hn))
      have hlen := inv.len
      have nea : pk ≠ pd := fun z => hpd (by rw [← z]; exact List.mem_cons_self)
      have neb : pk ≠ pr := fun z => hpr (by rw [← z]; exact List.mem_cons_of_mem _ List.mem_cons_self)
      have nec : pd ≠ pr := fun z => hpr (by rw [← z]; exact List.mem_cons_self)
      walk_at "w"
      refine ⟨.inr x.1, _, rfl, hxg, ?_⟩
      walk_at "w"
      refine ⟨a.kept, t, _, rfl, Or.inr ⟨pk, 2, rfl, rfl⟩, by omega, fun n hn => (hkept n hn).1, ht, ?_⟩
      walk_at "w"
      refine ⟨sz, a.kept.filter (isIn t), _, rfl, Or.inl rfl, Nat.le_trans (List.length_filter_le _ _) (by omega), fun n hn => (hkept n (List.mem_filter.mp hn).1).2, ?_⟩
      walk_at "w"
      refine ⟨fun c => ?_, fun c => ?_⟩
      · have c := of_decide_eq_true c
        obtain ⟨e1, _⟩ := inv.refuse (x := x) (t := t) (m := m) c
        walk_at "w"
        refine ⟨⟨0, _, rfl⟩, ?_⟩
        walk_at "w"
        refine ⟨0, _, rfl, by rw [List.length_map, sizeLine_eq]; omega, ?_⟩
        walk_at "w"
        refine ⟨_, _, _, rfl, ?_⟩
        rw [e1, List.map_append]
        rfl
      · have c := of_decide_eq_false c
        walk_at "w"
        rw [whileD_eq]
        refine ⟨fun n Δ' st' => ∃ kept del v10 v11, EvI sz pre t m x.2 a n kept del ∧ Δ' = [.dat (b.d ⟨S.C_Book, S.C_Rule, S.C_Listing, S.C_Sending⟩), .dat (lstD ⟨S.C_Book, S.C_Rule, S.C_Listing, S.C_Sending⟩ l), dI (k0 : Int), dI m, .dat (nsD t), .dat (dicD .int sz), .own pk, .own pd, .own pr, .dat (.str x.1), v10, v11] ∧ st' = (pr, Ob.lst (a.ref.map fun n => .dat (.str n))) :: (pd, Ob.lst (del.map fun n => .dat (.str n))) :: (pk, Ob.lst (kept.map fun n => .dat (.str n))) :: st, ⟨_, a.kept, a.del, _, _, EvI.start inv c, rfl, rfl⟩, ?_⟩
        rintro n Δ' st' ⟨kept, del, v10, v11, ev, rfl, rfl⟩
        have hkept2 : ∀ n ∈ kept, isWord n = true ∧ ∃ v, look sz n = some v := fun n hn => hks n (hpre n (ev.sub.subset hn))
        have hdl := ev.dl
        walk_at "w"
        refine ⟨sz, kept, _, rfl, Or.inr ⟨pk, 2, rfl, rfl⟩, by omega, fun n hn => (hkept2 n hn).2, ?_⟩
        walk_at "w"
        refine ⟨.inr x.1, _, rfl, hxg, ?_⟩
        walk_at "w"
        refine ⟨fun c2 => ?_, fun c2 => ?_⟩
        · have c2 := of_decide_eq_true c2
          obtain ⟨e, es, he, hem⟩ := ev.first c2
          obtain ⟨n', hn', ev'⟩ := ev.step c2 he
          obtain ⟨i, hi1, hi2, hi3⟩ := first_atT hem
          walk_at "w"
          refine ⟨2, _, rfl, ?_⟩
          refine lcO_pure kept .str (fun n => if (!isIn t n) = true then some (.str n) else none) rfl (j := 2) rfl ?_ ?_
          · intro i3 n D acc hi D2 J
            have hn := (hkept2 n (List.mem_of_getElem? hi)).1
            walk_at "ss"
            refine ⟨txtP n, t.map txtP, txt_of _, txts_of _, txt_shaped _ hn, txts_lay _ ht, ?_⟩
            rw [txt_any]
            refine ⟨fun h => ?_, fun h => ?_⟩
            · exact lc_yes (by rw [sizeLine_eq]; omega) hi J (if_pos h)
            · exact lc_no hi J (if_neg (by unfold isIn; have h : (!decide (n ∈ t)) = false := h; rw [h]; decide))
          rw [fm_if, he]
          walk_at "w"
          refine ⟨.dat (.str e), atI_get (by decide) rfl, ?_⟩
          walk_at "w"
          refine ⟨⟨2, _, rfl⟩, ?_⟩
          walk_at "w"
          refine ⟨2, kept, i, rfl, hi1, hi2, ?_⟩
          walk_at "w"
          refine ⟨⟨1, _, rfl⟩, ?_⟩
          walk_at "w"
          refine ⟨1, _, rfl, by rw [List.length_map, sizeLine_eq]; omega, ?_⟩
          walk_at "w"
          refine ⟨n', hn', kept.erase e, del ++ [e], _, _, ev', rfl, ?_⟩
          rw [hi3, List.map_append]
          rfl
        · have c2 := of_decide_eq_false c2
          obtain ⟨e1, _⟩ := ev.done inv.ref c c2
          walk_at "w"
          refine ⟨⟨2, _, rfl⟩, ?_⟩
          walk_at "w"
          refine ⟨2, _, rfl, by rw [List.length_map, sizeLine_eq]; omega, ?_⟩
          walk_at "w"
          refine ⟨_, _, _, rfl, ?_⟩
          rw [e1, List.map_append]
          rfl
    · rintro Δ' st' ⟨v9, v10, v11, rfl, rfl⟩
      rw [show sz.foldl (dkStep sz t m) ⟨[], [], []⟩ = diskOf sz t m from rfl]
      have nea : pk ≠ pd := fun z => hpd (by rw [← z]; exact List.mem_cons_self)
      have neb : pk ≠ pr := fun z => hpr (by rw [← z]; exact List.mem_cons_of_mem _ List.mem_cons_self)
      have nec : pd ≠ pr := fun z => hpr (by rw [← z]; exact List.mem_cons_self)
      have hd0 : pd ∉ keys st := fun z => hpd (List.mem_cons_of_mem _ z)
      have hr0 : pr ∉ keys st := fun z => hpr (List.mem_cons_of_mem _ (List.mem_cons_of_mem _ z))
      walk_at "w"
      refine ⟨.dat (namesD (diskOf sz t m).kept), _, .pub (j := 2) rfl (.lst (SP.allD_of _ _)) (fun z => ?_) (.cons₂ _ (.cons₂ _ (.cons _ (List.Sublist.refl _)))), ?_⟩
      · rcases List.mem_cons.mp z with z | z
        · exact neb z
        · rcases List.mem_cons.mp z with z | z
          · exact nea z
          · exact hpk z
      walk_at "w"
      refine ⟨.dat (namesD (diskOf sz t m).del), _, .pub (j := 1) rfl (.lst (SP.allD_of _ _)) (fun z => ?_) (.cons₂ _ (.cons _ (List.Sublist.refl _))), ?_⟩
      · rcases List.mem_cons.mp z with z | z
        · exact nec z
        · exact hd0 z
      walk_at "w"
      refine ⟨.dat (namesD (diskOf sz t m).ref), st, .pub (j := 0) rfl (.lst (SP.allD_of _ _)) hr0 (.cons _ (List.Sublist.refl _)), ?_⟩
      walk_at "w"
      refine ⟨by show 3 ≤ sizeLine; rw [sizeLine_eq]; decide, ?_⟩
      walk_at "f"
      exact k
theorem ok_least_disk (S : En K mg) : FnOk P w K mg base (L2.CX P w) 10 S.f_least_disk S.d_least_disk ["book", "listing", "receivers", "protected"] (lowF K (ctLeastDisk ⟨S.C_Book, S.C_Rule, S.C_Listing, S.C_Sending⟩)) := by
  refine fn_low _ S.F_least_disk sc_least_disk (fun ss st ok ex h => ?_) ?_ (fun cdv A outer s H E hr tk po => (bcons (sset 4 sc_least_disk.nd (dcall (dds := []) (ok_recorded_minutes S) (hr.mono (by decide)) S.g_recorded_minutes S.F_recorded_minutes.kp S.b_recorded_minutes .nil (fun _ => .nil) tk (acons (dv 0) (acons (dv 1) (acons (dv 2) anil)))))
  (bcons (sset 5 sc_least_disk.nd (dct (call_listR rfl) lc_listK S.n_list PyProof.Rows.boot_list (acons (dv 4) anil)))
  (bcons (ssetLc 6 [("at", 7), ("name", 8)] sc_least_disk.nd (iE S.n_enumerate (acons (dv 5) anil)) (blkOk_by (N := ["book", "listing", "receivers", "protected", "sizes", "names", "needed", "at", "name", "least"]) (sc := defScope s_least_disk) (by decide +kernel)) (fun _ _ _ _ _ => (gwtup 2 (gswcons (gwname 7 sc_least_disk.nd) (gswcons (gwname 8 sc_least_disk.nd) gswnil)))) (fun _ _ _ _ _ => tsnil) (fun _ _ _ _ _ => (dop op_add lr_add (ddget (hu1 hr) (dv 4) (dv 8)) (dcall (dds := []) (ok_minutes_of S) (hr.mono (by decide)) S.g_minutes_of S.F_minutes_of.kp S.b_minutes_of .nil (fun _ => .nil) takes0 (acons (dv 4) (acons (dcall (dds := []) (ok_among S) (hr.mono (by decide)) S.g_among S.F_among.kp S.b_among .nil (fun _ => .nil) takes0 (acons (dslL (dv 5) onone (osome (dv 7))) (acons (dv 3) anil))) anil))))))
  (bcons (sset 9 sc_least_disk.nd (dcb (cr_maxP rfl (hu65 hr)) lc_bestP S.n_max PyProof.Rows.boot_max (acons (dlst (acons di (astar (dv 6) anil))) anil)))
  (bone (sret (difx (tcmp op_le lr_le (dv 9) (dgl S.c_MOST_NEEDED S.r_MOST_NEEDED) (nomark _)) (dv 9) dn))))))))
  · exact bl_len (m := 2) (fun _ => rfl) h
  · intro ss st ok ex h
    unfold ctLeastDisk at h
    rw [ctBL_eq] at h
    obtain ⟨b, l, ⟨k0, t⟩, rfl, hb, hl, ⟨⟨hk1, hk2⟩, ht⟩, k⟩ := h
    have hok := sizes_ok hb hl k0
    have hok2 := hok
    obtain ⟨sz, hsz⟩ : ∃ sz, sz = sizesOf b l k0 := ⟨_, rfl⟩
    rw [← hsz] at hok
    dsimp only at k
    rw [← hsz] at k
    walk_at "w"
    refine Or.inl (bl_at k0 rfl hb hl ⟨hk1, hk2⟩ ?_)
    rw [← hsz]
    walk_at "w"
    have hks : ∀ n ∈ sz.map (·.1), isWord n = true ∧ ∃ v, look sz n = some v := fun n hn => by
      obtain ⟨x, hx, rfl⟩ := List.mem_map.mp hn
      exact ⟨hok.word x hx, x.2, hok.look hx⟩
    have hkl : (sz.map (·.1)).length ≤ 10 := by rw [List.length_map]; exact hok.len
    have hg : ∀ n ∈ sz.map (·.1), getD ((sz.map fun x => ((Sum.inr x.1 : Key), Dt.int x.2)).map fun kv => (kv.1, Sv.dat kv.2)) (.inr n) = some (.dat (.int ((look sz n).getD 0))) := fun n hn => by
      obtain ⟨_, v, hv⟩ := hks n hn
      rw [getD_dic Dt.int sz n, hv]
      rfl
    refine lc_pure (sz.map (·.1)).zipIdx (fun x => .tup [.int (x.2 : Nat), .str x.1]) (fun x => some (.int (need1 sz t x))) (by
      unfold enumS
      rw [show (List.map _ (List.map _ (List.map _ sz)) : List Dt) = (sz.map (·.1)).map Dt.str from by rw [List.map_map, List.map_map, List.map_map]; rfl, List.zipIdx_map, List.map_map]
      rfl) ?_ ?_
    · intro i x D acc hi hD J
      have hi2 := hi
      rw [List.getElem?_zipIdx] at hi2
      obtain ⟨n, hn, e⟩ := Option.map_eq_some_iff.mp hi2
      have hnm := List.mem_of_getElem? hn
      have e1 : x = (n, i) := by rw [← e, Nat.zero_add]
      subst e1
      walk_at "w"
      refine ⟨rfl, ?_⟩
      walk_at "ss"
      refine ⟨.inr n, _, rfl, hg n hnm, ?_⟩
      walk_at "w"
      refine ⟨((sz.map (·.1)).take i).map Dt.str, ?_, ?_⟩
      · rw [show (List.map Sv.dat (List.map _ (List.map _ (List.map _ sz))) : List Sv) = (sz.map (·.1)).map fun n => Sv.dat (.str n) from by rw [List.map_map, List.map_map, List.map_map, List.map_map]; rfl]
        rw [show (some ((n, i).2 : Int) : Option Int) = some ((i : Nat) : Int) from rfl, cut_to _ i (by rw [List.length_map]; exact Nat.le_of_lt (List.getElem?_eq_some_iff.mp hn).1), ← List.map_take]
        exact SP.allD_of _ _
      walk_at "w"
      have htk : ∀ n ∈ (sz.map (·.1)).take i, n ∈ sz.map (·.1) := fun n hn => List.mem_of_mem_take hn
      refine ⟨(sz.map (·.1)).take i, t, _, rfl, Or.inl rfl, by rw [List.length_take]; omega, fun n hn => (hks n (htk n hn)).1, ht, ?_⟩
      walk_at "w"
      refine ⟨sz, ((sz.map (·.1)).take i).filter (isIn t), _, rfl, Or.inl rfl, Nat.le_trans (List.length_filter_le _ _) (by rw [List.length_take]; omega), fun n hn => (hks n (htk n (List.mem_filter.mp hn).1)).2, ?_⟩
      walk_at "w"
      exact lc_yes (by rw [List.length_zipIdx, sizeLine_eq]; omega) hi J rfl
    rw [fm_some]
    simp only [List.set_cons_succ, List.set_cons_zero]
    walk_at "w"
    have hL : (Sv.dat (Dt.int 1) :: (List.map Sv.dat (List.map (fun x => Dt.int (need1 sz t x)) (sz.map (·.1)).zipIdx) ++ [])) = (Dt.int 1 :: (needs sz t).map Dt.int).map Sv.dat := by
      rw [List.append_nil, List.map_cons]
      unfold needs
      rw [List.map_map (f := need1 sz t)]
      rfl
    rw [hL]
    refine ⟨by rw [List.length_map, List.length_cons, List.length_map, sizeLine_eq]; unfold needs; rw [List.length_map, List.length_zipIdx]; omega, ?_⟩
    dsimp only
    rw [allD_map]
    walk_at "w"
    refine ⟨Int, 1, needs sz t, .int, .int, ?_, fun i => .int i, ints_alike _, Nat.le_trans (Nat.le_of_eq (PySem.W.depth_ints _)) (by decide), fun z hr hz => ?_⟩
    · rw [List.map_cons, List.map_cons, List.map_map]
      rfl
    rw [PySem.W.maxD_ints] at hz
    have hz : z = (needs sz t).foldl max 1 := by cases hz; rfl
    have hlo : leastOf sz t = if z ≤ 100000 then some z else none := by unfold leastOf; rw [hz]
    walk_at "w"
    refine ⟨fun c => ?_, fun c => ?_⟩
    · rw [hlo, if_pos (of_decide_eq_true c)] at k
      walk_at "f"
      exact k
    · rw [hlo, if_neg (of_decide_eq_false c)] at k
      walk_at "f"
      exact k
theorem ok_Book_init (S : En K mg) : FnOk P w K mg base (L2.CX P w) 1 S.f_Book_init S.d_Book_init ["self", "rules", "seen"] (lowF K (ctBook ⟨S.C_Book, S.C_Rule, S.C_Listing, S.C_Sending⟩)) := by
  refine fn_lowD _ S.F_Book_init sc_Book_init (fun ss st ok ex h => ?_) ?_ (fun cdv A outer s H E hr tk po => (bcons (sif (tcmp op_gt lr_gt (dcb call_len_seq lc_lenT S.n_len PySem.boot_len (acons (dv 1) anil)) (dgl S.c_MOST_RULES S.r_MOST_RULES) (nomark _))
   (bone (sraise0 PySem.F.excBase_ValueError S.x_InvalidBook S.g_InvalidBook S.kc_InvalidBook (raises_own S.r_InvalidBook S.ty_InvalidBook) tk)) bnil)
  (bcons (ssetF K (dct call_tuple_of lc_tup S.n_tuple PyProof.Rows.boot_tuple (acons (dv 1) anil)) (dv 0))
  (bone (ssetF K (dct call_tuple_of lc_tup S.n_tuple PyProof.Rows.boot_tuple (acons (dv 2) anil)) (dv 0))))))
  · rw [ctBook_eq] at h; obtain ⟨_, _, _, _, rfl, _⟩ := h; rfl
  · intro ss st ok ex h
    rw [ctBook_eq] at h
    obtain ⟨q, st0, rs, es, rfl, rfl, hl, k⟩ := h
    walk_at "w"
    refine ⟨fun h => ?_, fun _ => ?_⟩
    · rw [List.length_map, List.length_map] at h
      have := of_decide_eq_true h
      omega
    walk_at "w"
    refine ⟨0, _, _, _, rfl, S.cl_Book, S.na_Book_rules, (by show (0 : Nat) < 1000; decide), rfl, ?_⟩
    walk_at "w"
    refine ⟨0, _, _, _, rfl, S.cl_Book, S.na_Book_seen, (by show (1 : Nat) < 1000; decide), rfl, ?_⟩
    walk_at "w"
    exact ⟨_, List.Sublist.refl _, k⟩
theorem ok_Book_with_seen (S : En K mg) : FnOk P w K mg base (L2.CX P w) 3 S.f_Book_with_seen S.d_Book_with_seen ["self", "episodes"] (lowF K (ctSeen2L ⟨S.C_Book, S.C_Rule, S.C_Listing, S.C_Sending⟩)) := by
  refine fn_low _ S.F_Book_with_seen sc_Book_with_seen (fun ss st ok ex h => ?_) ?_ (fun cdv A outer s H E hr tk po => (bone (sret (dmake (dds := []) S.mk_Book (ok_Book_init S) (hr.mono (by decide)) S.g_Book S.b3_Book_init S.v3_Book_init (fun _ => .nil) tk (acons (dfld K (dv 0)) (acons (dop op_catA lr_catU (dfld K (dv 0)) (dct call_tuple_of lc_tup S.n_tuple PyProof.Rows.boot_tuple (acons (dv 1) anil))) anil))))))
  · rcases h with h | ⟨_, _, rfl, _⟩; rw [ctSeen2_eq] at h; obtain ⟨_, _, rfl, _⟩ := h; rfl; rfl
  · intro ss st ok ex h
    rcases h with h | ⟨b, es, rfl, hb, hs, k⟩
    · rw [ctSeen2_eq] at h
      obtain ⟨b, es, rfl, hb, hs, k⟩ := h
      walk_at "w"
      refine ⟨S.cl_Book, S.na_Book_rules, _, rfl, ?_⟩
      walk_at "w"
      refine ⟨S.cl_Book, S.na_Book_seen, _, rfl, ?_⟩
      walk_at "w"
      refine ⟨by rw [List.length_map, List.length_map, sizeLine_eq]; omega, ?_⟩
      rw [← List.map_append]
      walk_at "w"
      intro q hq
      rw [ctBook_eq]
      refine ⟨q, _, b.rules, b.seen ++ es, rfl, rfl, hb.len, rfl, _, _, _, rfl, .cons (.cons .nil), ?_⟩
      exact ⟨_, _, .keep (List.Sublist.refl _), k⟩
    · walk_at "w"
      refine ⟨S.cl_Book, S.na_Book_rules, _, rfl, ?_⟩
      walk_at "w"
      refine ⟨S.cl_Book, S.na_Book_seen, _, rfl, ?_⟩
      walk_at "w"
      refine ⟨by rw [List.length_map, List.length_map, sizeLine_eq]; omega, ?_⟩
      rw [← List.map_append]
      walk_at "w"
      intro q hq
      rw [ctBook_eq]
      refine ⟨q, _, b.rules, b.seen ++ es, rfl, rfl, hb.len, rfl, _, _, _, rfl, .cons (.cons .nil), ?_⟩
      exact ⟨_, _, .keep (List.Sublist.refl _), k⟩
theorem ok_rounds (S : En K mg) : FnOk P w K mg base (L2.CX P w) 9 S.f_rounds S.d_rounds ["book", "listing", "receivers"] (lowF K (ctRoundsX ⟨S.C_Book, S.C_Rule, S.C_Listing, S.C_Sending⟩ S.C_InvalidNumber)) := by
  refine fn_low _ S.F_rounds sc_rounds (fun ss st ok ex h => ?_) ?_ (fun cdv A outer s H E hr tk po => (bcons (sset 3 sc_rounds.nd (dlstO anil))
  (bcons (sset 4 sc_rounds.nd (dcall (dds := []) (ok_own_plan S) (hr.mono (by decide)) S.g_own_plan S.F_own_plan.kp S.b_own_plan .nil (fun _ => .nil) tk (acons (dv 0) (acons (dv 1) (acons (dv 2) anil)))))
  (bcons (swhile po (ttruK (dv 4))
   (bcons (sapp (dv 3) (dv 4))
  (bcons (sset 0 sc_rounds.nd (dmeth (dds := []) S.cl_Book S.m_Book_with_seen (ok_Book_with_seen S) (hr.mono (by decide)) S.b_Book_with_seen .nil (fun _ => .nil) tk (dv 0) (acons (dct call_tuple_of lc_tup S.n_tuple PyProof.Rows.boot_tuple (acons (dcall (dds := []) (ok_episodes_of S) (hr.mono (by decide)) S.g_episodes_of S.F_episodes_of.kp S.b_episodes_of .nil (fun _ => .nil) tk (acons (dv 1) (acons (dv 4) anil))) anil)) anil)))
  (bone (sset 4 sc_rounds.nd (dcall (dds := []) (ok_own_plan S) (hr.mono (by decide)) S.g_own_plan S.F_own_plan.kp S.b_own_plan .nil (fun _ => .nil) tk (acons (dv 0) (acons (dv 1) (acons (dv 2) anil)))))))))
  (bone (sret (dv 3)))))))
  · rcases h with h | ⟨_, _, _, rfl, _⟩; exact bl_len (m := 1) (fun _ => rfl) h; rfl
  · rintro ss st ok ex (h | ⟨b, l, d, rfl, hd, k⟩)
    · unfold ctRounds at h
      rw [ctBL_eq] at h
      obtain ⟨b, l, k0, rfl, hb, hl, ⟨⟨hk1, hk2⟩, hs⟩, k⟩ := h
      walk_at "zz"
      intro p hp
      walk_at "w"
      refine Or.inl (bl_at k0 rfl hb hl ⟨hk1, hk2⟩ ?_)
      walk_at "w"
      rw [whileD_eq]
      refine ⟨fun m Δ' st' => ∃ (c : Bk) (f : List Plan) (n : Nat), m = (wished c l).length ∧ RS b l k0 f c n ∧ Δ' = [.dat (c.d ⟨S.C_Book, S.C_Rule, S.C_Listing, S.C_Sending⟩), .dat (lstD ⟨S.C_Book, S.C_Rule, S.C_Listing, S.C_Sending⟩ l), dI (k0 : Int), .own p, .dat (planD (ownPlan c l k0))] ∧ st' = (p, .lst (f.map fun q => .dat (planD q))) :: st, ⟨_, b, [], 11, rfl, .start k0 hb hl hs, rfl, rfl⟩, ?_⟩
      rintro m Δ' st' ⟨c, f, n, rfl, R, rfl, rfl⟩
      walk_at "w"
      refine ⟨fun h => ?_, fun h => ?_⟩
      · have hne : ownPlan c l k0 ≠ [] := fun z => by rw [z] at h; cases h
        obtain ⟨m, rfl, R', hlt⟩ := R.step hl hne (es := recorded c l k0) (fun _ => Iff.rfl) (by unfold recorded; rw [List.length_map])
        have R3 := R.len
        have R4 := R'.seen
        have R5 := R'.ok.seen
        walk_at "w"
        refine ⟨⟨0, _, rfl⟩, ?_⟩
        walk_at "w"
        refine ⟨0, _, rfl, by rw [List.length_map, sizeLine_eq]; omega, ?_⟩
        walk_at "w"
        refine ⟨rfl, rfl, ?_⟩
        walk_at "w"
        rw [ctEps_eq]
        refine ⟨l, ownPlan c l k0, rfl, hl, own_len hl _, fun x hx => ?_, ?_⟩
        · obtain ⟨w, _, _, e2⟩ := own_wish hl hx
          rw [e2]
          rfl
        walk_at "w"
        refine Or.inl ?_
        rw [ctSeen2_eq]
        refine ⟨c, recorded c l k0, rfl, R.ok, by rw [← List.length_append]; exact R5, ?_⟩
        walk_at "w"
        refine Or.inl (bl_at k0 rfl R'.ok hl ⟨hk1, hk2⟩ ?_)
        walk_at "w"
        exact ⟨_, hlt, c.seen2 (recorded c l k0), f ++ [ownPlan c l k0], m, rfl, R', rfl, by rw [List.map_append]; rfl⟩
      · have he : ownPlan c l k0 = [] := by
          cases z : ownPlan c l k0 with
          | nil => rfl
          | cons x xs => rw [z] at h; cases h
        rw [R.done he] at k
        walk_at "w"
        exact ⟨.dat (.lst (f.map planD)), st, .pub (j := 0) rfl (.lst (allD_of _ _)) hp (.cons _ (List.Sublist.refl _)), k⟩
    · walk_at "zz"
      intro p hp
      walk_at "w"
      refine Or.inr ⟨b, l, d, rfl, hd, ?_⟩
      exact ⟨st, .cons _ (List.Sublist.refl _), k⟩
theorem ok_wrong_part_books (S : En K mg) : FnOk P w K mg base (L2.CX P w) 2 S.f_wrong_part_books S.d_wrong_part_books ["show", "first", "last", "priority", "before", "after"] (lowF K ctWrongR) := by
  refine fn_low _ S.F_wrong_part_books sc_wrong_part_books (fun ss st ok ex h => ?_) ?_ (fun cdv A outer s H E hr tk po => (bcons (sif (tnot (tval (dcall (dds := []) (ok_is_word S) (hr.mono (by decide)) S.g_is_word S.F_is_word.kp S.b_is_word .nil (fun _ => .nil) tk (acons (dv 0) anil))))
   (bone (sret ds)) bnil)
  (bcons (sif (tnot (tval (dcall (dds := []) (ok_is_number S) (hr.mono (by decide)) S.g_is_number S.F_is_number.kp S.b_is_number .nil (fun _ => .nil) tk (acons (dv 1) (acons di (acons (dgl S.c_GREATEST_EPISODE S.r_GREATEST_EPISODE) anil))))))
   (bone (sret ds)) bnil)
  (bcons (sif (tnot (tval (dcall (dds := []) (ok_is_number S) (hr.mono (by decide)) S.g_is_number S.F_is_number.kp S.b_is_number .nil (fun _ => .nil) tk (acons (dv 2) (acons (dv 1) (acons (dgl S.c_GREATEST_EPISODE S.r_GREATEST_EPISODE) anil))))))
   (bone (sret ds)) bnil)
  (bcons (sif (tnot (tval (dcall (dds := []) (ok_is_number S) (hr.mono (by decide)) S.g_is_number S.F_is_number.kp S.b_is_number .nil (fun _ => .nil) tk (acons (dv 3) (acons di (acons (dgl S.c_GREATEST_PRIORITY S.r_GREATEST_PRIORITY) anil))))))
   (bone (sret ds)) bnil)
  (bcons (sif (tnot (tval (dcall (dds := []) (ok_is_number S) (hr.mono (by decide)) S.g_is_number S.F_is_number.kp S.b_is_number .nil (fun _ => .nil) tk (acons (dv 4) (acons di (acons (dgl S.c_MOST_PADDING S.r_MOST_PADDING) anil))))))
   (bone (sret ds)) bnil)
  (bcons (sif (tnot (tval (dcall (dds := []) (ok_is_number S) (hr.mono (by decide)) S.g_is_number S.F_is_number.kp S.b_is_number .nil (fun _ => .nil) tk (acons (dv 5) (acons di (acons (dgl S.c_MOST_PADDING S.r_MOST_PADDING) anil))))))
   (bone (sret ds)) bnil)
  (bone (sret dn)))))))))
  · (repeat (first | (obtain ⟨rfl, _⟩ := h; rfl) | (obtain ⟨_, h⟩ := h)))
  · rintro ss st ok ex ⟨c, s, e, b, n, l, rfl, hc, hs, he, hb, hn, hl, k⟩
    unfold wrongR at k
    walk_at "w"
    refine ⟨c, rfl, hc, ?_⟩
    cases h1 : wordD c with
    | false => walk_at "d"; walk_at "f"; rw [h1, cond_false] at k; exact k
    | true =>
    rw [h1, cond_true] at k
    walk_at "d"; walk_at "w"
    refine ⟨s, _, _, rfl, hs, ?_⟩
    cases h3 : isNum s 1 999 with
    | false => walk_at "d"; walk_at "f"; rw [h3, cond_false] at k; exact k
    | true =>
    rw [h3, cond_true] at k
    obtain ⟨s, rfl, -, -⟩ := isNum_int h3
    walk_at "d"; walk_at "w"
    refine ⟨e, _, _, rfl, he, ?_⟩
    dsimp only [inI] at k
    cases h2 : isNum e s 999 with
    | false => walk_at "d"; walk_at "f"; rw [h2, cond_false] at k; exact k
    | true =>
    rw [h2, cond_true] at k
    walk_at "d"; walk_at "w"
    refine ⟨b, _, _, rfl, hb, ?_⟩
    cases h4 : isNum b 1 9 with
    | false => walk_at "d"; walk_at "f"; rw [h4, cond_false] at k; exact k
    | true =>
    rw [h4, cond_true] at k
    walk_at "d"; walk_at "w"
    refine ⟨n, _, _, rfl, hn, ?_⟩
    cases h5 : isNum n 0 60 with
    | false => walk_at "d"; walk_at "f"; rw [h5, cond_false] at k; exact k
    | true =>
    rw [h5, cond_true] at k
    walk_at "d"; walk_at "w"
    refine ⟨l, _, _, rfl, hl, ?_⟩
    cases h6 : isNum l 0 60 with
    | false => walk_at "d"; walk_at "f"; rw [h6, cond_false] at k; exact k
    | true =>
    rw [h6, cond_true] at k
    walk_at "d"; walk_at "f"; exact k
theorem ok_Rule_init (S : En K mg) : FnOk P w K mg base (L2.CX P w) 3 S.f_Rule_init S.d_Rule_init ["self", "show", "first", "last", "priority", "before", "after"] (lowF K (ctInitR S.C_Rule S.C_InvalidRule)) := by
  refine fn_lowD _ S.F_Rule_init sc_Rule_init (fun ss st ok ex h => ?_) ?_ (fun cdv A outer s H E hr tk po => (bcons (sset 7 sc_Rule_init.nd (dcall (dds := []) (ok_wrong_part_books S) (hr.mono (by decide)) S.g_wrong_part_books S.F_wrong_part_books.kp S.b_wrong_part_books .nil (fun _ => .nil) tk (acons (dv 1) (acons (dv 2) (acons (dv 3) (acons (dv 4) (acons (dv 5) (acons (dv 6) anil))))))))
  (bcons (sif (tnotN (dv 7))
   (bone (sraise1 S.T_InvalidRule S.i_InvalidRule S.t_InvalidRule (ok_InvalidRule S) hr S.b_InvalidRule_init S.g_InvalidRule tk (acons (dv 7) anil))) bnil)
  (bcons (ssetF K (dv 1) (dv 0))
  (bcons (ssetF K (dv 2) (dv 0))
  (bcons (ssetF K (dv 3) (dv 0))
  (bcons (ssetF K (dv 4) (dv 0))
  (bcons (ssetF K (dv 5) (dv 0))
  (bone (ssetF K (dv 6) (dv 0)))))))))))
  · (repeat (first | (obtain ⟨rfl, _⟩ := h; rfl) | (obtain ⟨_, h⟩ := h)))
  · rintro ss st ok ex ⟨p, st0, a, b, c, d, e, g, rfl, rfl, ha, hb, hc, hd, he, hg, hx, hk⟩
    walk_at "w"
    refine ⟨a, b, c, d, e, g, rfl, ha, hb, hc, hd, he, hg, ?_⟩
    cases hw : wrongR a b c d e g with
    | some z =>
      walk_at "d"
      walk_at "w"
      exact ⟨st0, .cons _ (List.Sublist.refl _), hx z hw⟩
    | none =>
      walk_at "d"
      walk_at "w"
      refine ⟨0, _, _, _, rfl, S.cl_Rule, S.na_Rule_show, (by show (0 : Nat) < 1000; decide), rfl, ?_⟩
      walk_at "w"
      refine ⟨0, _, _, _, rfl, S.cl_Rule, S.na_Rule_first, (by show (1 : Nat) < 1000; decide), rfl, ?_⟩
      walk_at "w"
      refine ⟨0, _, _, _, rfl, S.cl_Rule, S.na_Rule_last, (by show (2 : Nat) < 1000; decide), rfl, ?_⟩
      walk_at "w"
      refine ⟨0, _, _, _, rfl, S.cl_Rule, S.na_Rule_priority, (by show (3 : Nat) < 1000; decide), rfl, ?_⟩
      walk_at "w"
      refine ⟨0, _, _, _, rfl, S.cl_Rule, S.na_Rule_before, (by show (4 : Nat) < 1000; decide), rfl, ?_⟩
      walk_at "w"
      refine ⟨0, _, _, _, rfl, S.cl_Rule, S.na_Rule_after, (by show (5 : Nat) < 1000; decide), rfl, ?_⟩
      walk_at "w"
      exact ⟨_, List.Sublist.refl _, hk hw⟩
theorem ok_Book_rules (S : En K mg) : FnOk P w K mg base (L2.CX P w) 1 S.f_Book_rules S.d_Book_rules ["self"] (lowF K (ctGet S.C_Book "_rules")) := by
  refine fn_low _ S.F_Book_rules sc_Book_rules (fun ss st ok ex h => ?_) ?_ (fun cdv A outer s H E hr tk po => (bone (sret (dfld K (dv 0)))))
  · (repeat (first | (obtain ⟨rfl, _⟩ := h; rfl) | (obtain ⟨_, h⟩ := h)))
  · rintro ss st ok ex ⟨fs, d, rfl, hl, k⟩
    walk_at "w"
    refine ⟨S.cl_Book, S.na_Book_rules, d, hl, ?_⟩
    walk_at "f"
    exact k
theorem ok_Sending_late (S : En K mg) : FnOk P w K mg base (L2.CX P w) 1 S.f_Sending_late S.d_Sending_late ["self"] (lowF K (ctGet S.C_Sending "_late")) := by
  refine fn_low _ S.F_Sending_late sc_Sending_late (fun ss st ok ex h => ?_) ?_ (fun cdv A outer s H E hr tk po => (bone (sret (dfld K (dv 0)))))
  · (repeat (first | (obtain ⟨rfl, _⟩ := h; rfl) | (obtain ⟨_, h⟩ := h)))
  · rintro ss st ok ex ⟨fs, d, rfl, hl, k⟩
    walk_at "w"
    refine ⟨S.cl_Sending, S.na_Sending_late, d, hl, ?_⟩
    walk_at "f"
    exact k
theorem ok_check_delays (S : En K mg) : FnOk P w K mg base (L2.CX P w) 3 S.f_check_delays S.d_check_delays ["listing", "delays"] (lowF K (ctChkDelX ⟨S.C_Book, S.C_Rule, S.C_Listing, S.C_Sending⟩ S.C_InvalidDelay)) := by
  refine fn_low _ S.F_check_delays sc_check_delays (fun ss st ok ex h => ?_) ?_ (fun cdv A outer s H E hr tk po => (bone (sfor po (iL (dcb (call_sortedD rfl) lc_sortK S.n_sorted PyProof.Rows.boot_sorted (acons (dv 1) anil))) (gname 2 sc_check_delays.nd)
   (bone (sif (tw (wor (tcmp (op_niO (ok_Listing_contains S) S.sg_Listing_contains S.fn_Listing_contains S.b_Listing_contains (hr.mono (by decide))) lr_inO (dv 2) (dv 0) (by with_unfolding_all rfl)) (wor1 (tnot (tval (dcall (dds := []) (ok_is_number S) (hr.mono (by decide)) S.g_is_number S.F_is_number.kp S.b_is_number .nil (fun _ => .nil) tk (acons (ddget (hu1 hr) (dv 1) (dv 2)) (acons di (acons (dprop S.cl_Sending S.p_Sending_late (ok_Sending_late S) (hr.mono (by decide)) S.b_Sending_late (dget S.sg_Listing_getitem S.fi_Listing_getitem S.fn_Listing_getitem (ok_Listing_getitem S) (hr.mono (by decide)) S.b_Listing_getitem tk (dv 0) (dv 2))) anil)))))))))
   (bone (sraise1 S.T_InvalidDelay S.i_InvalidDelay S.t_InvalidDelay (ok_InvalidDelay S) hr S.b_InvalidDelay_init S.g_InvalidDelay tk (acons (dv 2) anil))) bnil)))))
  · rcases h with h | ⟨_, _, _, rfl, _⟩; rw [ctChkDel_eq] at h; obtain ⟨_, _, rfl, _⟩ := h; rfl; rfl
  · rintro ss st ok ex (h | ⟨l, d, n, rfl, hd, hf, k⟩)
    · rw [ctChkDel_eq] at h
      obtain ⟨l, d, rfl, hl, hd, k⟩ := h
      walk_at "w"
      refine ⟨d.map (·.1), by rw [List.map_map, List.map_map, List.map_map]; rfl, by rw [List.length_map]; exact Nat.lt_of_le_of_lt hd.len (by decide), fun ys hy hs => ?_⟩
      obtain rfl := sorted_is hy hs
      walk_at "w"
      refine loop_fold (σ := Unit) (sortN (d.map (·.1))) (fun n => .str n) (fun s _ => s) () (fun _ Δ' st' => ∃ v, Δ' = [.dat (lstD ⟨S.C_Book, S.C_Rule, S.C_Listing, S.C_Sending⟩ l), .dat (dicD .int d), v] ∧ st' = st) (by rw [List.map_map]; rfl) ⟨.un, rfl, rfl⟩ ?_ ?_
      · rintro pre n post _ Δ' st' has _ ⟨v, rfl, rfl⟩
        have hm := (sortN_perm _).mem_iff.mp (show n ∈ sortN (d.map (·.1)) by rw [has]; simp)
        obtain ⟨x, hx, rfl⟩ := List.mem_map.mp hm
        obtain ⟨s, hs, h1, h2⟩ := hd.ok x hx
        walk_at "w"
        refine ⟨rfl, ?_⟩
        rw [ctHas_eq]
        refine ⟨l, x.1, rfl, ?_⟩
        rw [hs]
        walk_at "w"
        refine ⟨_, rfl, ?_⟩
        walk_at "w"
        refine ⟨fun h => absurd h Bool.false_ne_true, fun _ => ?_⟩
        walk_at "w"
        refine ⟨.inr x.1, .dat (.int x.2), rfl, by rw [getD_dic Dt.int d x.1, look_mem hd.nd hx]; rfl, ?_⟩
        walk_at "w"
        refine ⟨rfl, ?_⟩
        rw [ctItem_eq]
        refine ⟨l, x.1, s, rfl, hs, ?_⟩
        walk_at "w"
        refine ⟨rfl, _, _, rfl, rfl, ?_⟩
        walk_at "w"
        refine ⟨.int x.2, 0, s.late, rfl, trivial, ?_⟩
        rw [show isNum (.int x.2) 0 s.late = true by unfold isNum; dsimp only; rw [decide_eq_true h1, decide_eq_true h2]; rfl]
        walk_at "ss"
        exact ⟨_, rfl, rfl⟩
      · rintro Δ' st' ⟨v, rfl, rfl⟩
        exact ⟨_, List.Sublist.refl _, k⟩
    · walk_at "w"
      refine ⟨d.map (·.1), by rw [List.map_map, List.map_map, List.map_map]; rfl, by rw [List.length_map]; exact Nat.lt_of_le_of_lt hd.len (by decide), fun ys hy hs => ?_⟩
      obtain rfl := sorted_is hy hs
      walk_at "w"
      refine loop_find (sortN (d.map (·.1))) (fun n => .str n) (badDel l d) (fun Δ' st' => ∃ v, Δ' = [.dat (lstD ⟨S.C_Book, S.C_Rule, S.C_Listing, S.C_Sending⟩ l), .dat (dicD id d), v] ∧ st' = st) (by rw [List.map_map]; rfl) ⟨.un, rfl, rfl⟩ ?_ ?_
      · rintro i m Δ' st' hi J
        obtain ⟨v, rfl, rfl⟩ := J.r
        have hm := (sortN_perm _).mem_iff.mp (List.mem_of_getElem? hi)
        obtain ⟨x, hx, rfl⟩ := List.mem_map.mp hm
        have hlx := look_mem hd.nd hx
        have hxp := hd.pl x hx
        have yes : badDel l d x.1 = true → x.1 = n := fun hb => by
          have := fj_yes hi J hb
          rw [show (sortN (d.map (·.1))).find? (badDel l d) = some n from hf] at this
          exact (Option.some.inj this).symm
        walk_at "w"
        refine ⟨rfl, ?_⟩
        rw [ctHas_eq]
        refine ⟨l, x.1, rfl, ?_⟩
        cases hs : look l x.1 with
        | none =>
          walk_at "w"
          refine ⟨_, rfl, ?_⟩
          walk_at "ss"
          rw [yes (by unfold badDel; rw [hlx]; dsimp only; rw [hs])]
          exact ⟨st', List.Sublist.refl _, k⟩
        | some s =>
          walk_at "w"
          refine ⟨_, rfl, ?_⟩
          walk_at "w"
          refine ⟨fun h => absurd h Bool.false_ne_true, fun _ => ?_⟩
          walk_at "w"
          refine ⟨.inr x.1, .dat x.2, rfl, by rw [getD_dic id d x.1, hlx]; rfl, ?_⟩
          walk_at "w"
          refine ⟨rfl, ?_⟩
          rw [ctItem_eq]
          refine ⟨l, x.1, s, rfl, hs, ?_⟩
          walk_at "w"
          refine ⟨rfl, _, _, rfl, rfl, ?_⟩
          walk_at "w"
          refine ⟨x.2, 0, s.late, rfl, hxp, ?_⟩
          cases hn : isNum x.2 0 s.late with
          | true =>
            walk_at "ss"
            exact fj_no hi J (by unfold badDel; rw [hlx]; dsimp only; rw [hs]; show (!isNum x.2 0 s.late) = false; rw [hn]; rfl) ⟨_, rfl, rfl⟩
          | false =>
            walk_at "ss"
            rw [yes (by unfold badDel; rw [hlx]; dsimp only; rw [hs]; show (!isNum x.2 0 s.late) = true; rw [hn]; rfl)]
            exact ⟨st', List.Sublist.refl _, k⟩
      · rintro Δ' st' _ hn
        rw [show (sortN (d.map (·.1))).find? (badDel l d) = some n from hf] at hn
        cases hn
theorem ok_in_window (S : En K mg) : FnOk P w K mg base (L2.CX P w) 6 S.f_in_window S.d_in_window ["book", "listing", "name", "delay"] (lowF K (ctInWin ⟨S.C_Book, S.C_Rule, S.C_Listing, S.C_Sending⟩)) := by
  refine fn_low _ S.F_in_window sc_in_window (fun ss st ok ex h => ?_) ?_ (fun cdv A outer s H E hr tk po => (bcons (sasgG (dcall (dds := []) (ok_window S) (hr.mono (by decide)) S.g_window S.F_window.kp S.b_window .nil (fun _ => .nil) tk (acons (dv 0) (acons (dv 1) (acons (dv 2) anil)))) (gtup 2 (gscons (gname 4 sc_in_window.nd) (gscons (gname 5 sc_in_window.nd) gsnil))))
  (bone (sret (dand (dcmp op_le lr_le (dv 4) (dop op_add lr_add (dprop S.cl_Sending S.p_Sending_begin (ok_Sending_begin S) (hr.mono (by decide)) S.b_Sending_begin (dget S.sg_Listing_getitem S.fi_Listing_getitem S.fn_Listing_getitem (ok_Listing_getitem S) (hr.mono (by decide)) S.b_Listing_getitem tk (dv 1) (dv 2))) (dv 3)) (nomark _)) (done (dcmp op_le lr_le (dop op_add lr_add (dprop S.cl_Sending S.p_Sending_end (ok_Sending_end S) (hr.mono (by decide)) S.b_Sending_end (dget S.sg_Listing_getitem S.fi_Listing_getitem S.fn_Listing_getitem (ok_Listing_getitem S) (hr.mono (by decide)) S.b_Listing_getitem tk (dv 1) (dv 2))) (dv 3)) (dv 5) (nomark _))))))))
  · exact bl_len (m := 2) (fun _ => rfl) h
  · intro ss st ok ex h
    unfold ctInWin at h
    rw [ctBL_eq] at h
    obtain ⟨b, l, ⟨x, d⟩, rfl, hb, hl, hx, k⟩ := h
    dsimp only at hx k
    have hlk := hl.get (wished_mem.mp hx).1
    walk_at "w"
    refine bl_at x rfl hb hl hx ?_
    walk_at "w"
    refine ⟨rfl, ?_⟩
    walk_at "w"
    refine ⟨rfl, ?_⟩
    rw [ctItem_eq]
    refine ⟨l, x.n, x.s, rfl, hlk, ?_⟩
    walk_at "w"
    refine ⟨rfl, _, _, rfl, rfl, ?_⟩
    walk_at "w"
    unfold inWin at k
    refine ⟨fun h => ?_, fun h => ?_⟩
    · walk_at "w"
      refine ⟨rfl, ?_⟩
      rw [ctItem_eq]
      refine ⟨l, x.n, x.s, rfl, hlk, ?_⟩
      walk_at "w"
      refine ⟨rfl, _, _, rfl, rfl, ?_⟩
      walk_at "f"
      rw [show decide (x.win.1 ≤ x.s.begin_ + d) = true from h, Bool.true_and] at k
      exact k
    · walk_at "f"
      rw [show decide (x.win.1 ≤ x.s.begin_ + d) = false from h, Bool.false_and] at k
      exact k
theorem ok_whole (S : En K mg) : FnOk P w K mg base (L2.CX P w) 7 S.f_whole S.d_whole ["book", "listing", "plan", "delays"] (lowF K (ctWholeX ⟨S.C_Book, S.C_Rule, S.C_Listing, S.C_Sending⟩ S.C_InvalidDelay)) := by
  refine fn_low _ S.F_whole sc_whole (fun ss st ok ex h => ?_) ?_ (fun cdv A outer s H E hr tk po => (bcons (sdrop (dcall (dds := []) (ok_check_delays S) (hr.mono (by decide)) S.g_check_delays S.F_check_delays.kp S.b_check_delays .nil (fun _ => .nil) tk (acons (dv 1) (acons (dv 3) anil))))
  (bone (sret (dlc [("name", 4)] sc_whole.nd (iL (dcb (call_sortedD rfl) lc_sortK S.n_sorted PyProof.Rows.boot_sorted (acons (dv 2) anil))) (blkOk_by (N := ["book", "listing", "plan", "delays", "name"]) (sc := defScope s_whole) (by decide +kernel)) (fun _ _ _ _ _ => (gwname 4 sc_whole.nd)) (fun _ _ _ _ _ => (tsone (tval (dcall (dds := []) (ok_in_window S) (hr.mono (by decide)) S.g_in_window S.F_in_window.kp S.b_in_window .nil (fun _ => .nil) takes0 (acons (dv 0) (acons (dv 1) (acons (dv 4) (acons (ddget2 (hu1 hr) (dv 3) (dv 4) di) anil)))))))) (fun _ _ _ _ _ => (dv 4)))))))
  · rcases h with h | ⟨_, _, _, _, _, rfl, _⟩; exact bl_len (m := 2) (fun _ => rfl) h; rfl
  · rintro ss st ok ex (h | ⟨b, l, p, d, n, rfl, hd, hf, k⟩)
    · unfold ctWhole at h
      rw [ctBL_eq] at h
      obtain ⟨b, l, ⟨p, d⟩, rfl, hb, hl, ⟨hp, hw, hd⟩, k⟩ := h
      dsimp only at hp hw hd k
      walk_at "w"
      refine Or.inl ?_
      rw [ctChkDel_eq]
      refine ⟨l, d, rfl, hl, hd, ?_⟩
      walk_at "w"
      refine ⟨p.map (·.1), by rw [List.map_map, List.map_map, List.map_map]; rfl, by rw [List.length_map]; exact Nat.lt_of_le_of_lt hp.len (by decide), fun ys hy hs => ?_⟩
      obtain rfl := sorted_is hy hs
      walk_at "w"
      refine lc_pure (sortN (p.map (·.1))) (fun n => .str n) (fun n => if (match wiOf b l n with | some x => inWin x ((look d n).getD 0) | none => false) = true then some (.str n) else none) (by rw [List.map_map]; rfl) ?_ ?_
      · intro i n D acc hx hD J
        have hm := (sortN_perm _).mem_iff.mp (List.mem_of_getElem? hx)
        obtain ⟨y, hy, rfl⟩ := List.mem_map.mp hm
        obtain ⟨x, hxw, hxn⟩ := hw y hy
        have hwi := wiOf_is hl hxw
        rw [hxn] at hwi
        walk_at "w"
        refine ⟨trivial, ?_⟩
        walk_at "w"
        refine ⟨.inr y.1, rfl, ?_⟩
        rw [show ∀ z, (getD ((d.map fun x => ((Sum.inr x.1 : Key), Dt.int x.2)).map fun kv => (kv.1, Sv.dat kv.2)) (.inr y.1)).getD z = ((look d y.1).map fun x => Sv.dat (.int x)).getD z from fun z => by rw [getD_dic Dt.int d y.1]]
        have e2 : ((look d y.1).map fun x => Sv.dat (.int x)).getD (.dat (.int 0)) = dI ((look d y.1).getD 0) := by cases look d y.1 <;> rfl
        rw [e2]
        walk_at "w"
        refine bl_at (x, (look d y.1).getD 0) (by rw [show x.n = y.1 from hxn]; rfl) hb hl hxw ?_
        walk_at "w"
        refine ⟨fun h => ?_, fun h => ?_⟩
        · walk_at "w"
          exact lc_yes (by rw [(sortN_perm _).length_eq, List.length_map]; exact Nat.le_trans hp.len (by decide)) hx J (by rw [hwi]; exact if_pos h)
        · walk_at "w"
          exact lc_no hx J (by rw [hwi]; exact if_neg (by show ¬ inWin x ((look d y.1).getD 0) = true; rw [show inWin x ((look d y.1).getD 0) = false from h]; decide))
      · walk_at "f"
        rw [fm_if]
        exact k
    · walk_at "w"
      refine Or.inr ⟨l, d, n, rfl, hd, hf, ?_⟩
      exact ⟨st, List.Sublist.refl _, k⟩
theorem ok_surely_whole (S : En K mg) : FnOk P w K mg base (L2.CX P w) 8 S.f_surely_whole S.d_surely_whole ["book", "listing", "plan"] (lowF K (ctSurely ⟨S.C_Book, S.C_Rule, S.C_Listing, S.C_Sending⟩)) := by
  refine fn_low _ S.F_surely_whole sc_surely_whole (fun ss st ok ex h => ?_) ?_ (fun cdv A outer s H E hr tk po => (bone (sret (dcall (dds := []) (ok_whole S) (hr.mono (by decide)) S.g_whole S.F_whole.kp S.b_whole .nil (fun _ => .nil) tk (acons (dv 0) (acons (dv 1) (acons (dv 2) (acons (ddcK [("name", 3)] sc_surely_whole.nd (dv 2) (blkOk_by (N := ["book", "listing", "plan", "name"]) (sc := defScope s_surely_whole) (by decide +kernel)) (fun _ _ _ _ _ => (gwname 3 sc_surely_whole.nd)) (fun _ _ _ _ _ => tsnil) (fun _ _ _ _ _ => (dv 3)) (fun _ _ _ _ _ => (dprop S.cl_Sending S.p_Sending_late (ok_Sending_late S) (hr.mono (by decide)) S.b_Sending_late (dget S.sg_Listing_getitem S.fi_Listing_getitem S.fn_Listing_getitem (ok_Listing_getitem S) (hr.mono (by decide)) S.b_Listing_getitem takes0 (dv 1) (dv 3))))) anil))))))))
  · exact bl_len (m := 1) (fun _ => rfl) h
  · intro ss st ok ex h
    unfold ctSurely at h
    rw [ctBL_eq] at h
    obtain ⟨b, l, p, rfl, hb, hl, ⟨hp, hw⟩, k⟩ := h
    walk_at "w"
    have hlt := lates_is hl hw
    have hnd : ((p.filterMap fun x => some ((Sum.inr x.1 : Key), Dt.int (((look l x.1).map Snd.late).getD 0))).map (·.1)).Nodup := by
      rw [fm_some, List.map_map]
      exact nodup_of hp.nd
    refine dc_pure p (fun x => .str x.1) (fun x => some ((Sum.inr x.1 : Key), Dt.int (((look l x.1).map Snd.late).getD 0))) (by unfold keysD; rw [List.map_map]; rfl) ?_ ?_
    · intro i x D acc hx hD J
      obtain ⟨w, h1, h2, h3⟩ := hlt x (List.mem_of_getElem? hx)
      walk_at "ss"
      refine ⟨rfl, ?_⟩
      rw [ctItem_eq]
      refine ⟨l, x.1, w.s, rfl, h3, ?_⟩
      walk_at "w"
      refine ⟨rfl, _, _, rfl, rfl, ?_⟩
      exact dc_yes (Nat.le_trans hp.len (by decide)) hnd hx J (by rw [h3]; rfl) rfl
    · rw [fm_some]
      walk_at "w"
      refine Or.inl (bl_at (p, lates l p) ?_ hb hl ⟨hp, hw, lates_ok hl hp hw⟩ ?_)
      · unfold lates dicD
        rw [List.map_map]
        rfl
      walk_at "f"
      exact k
theorem ok_wrong_part_listings (S : En K mg) : FnOk P w K mg base (L2.CX P w) 2 S.f_wrong_part_listings S.d_wrong_part_listings ["channel", "show", "episode", "begin", "end", "late"] (lowF K ctWrongS) := by
  refine fn_low _ S.F_wrong_part_listings sc_wrong_part_listings (fun ss st ok ex h => ?_) ?_ (fun cdv A outer s H E hr tk po => (bcons (sif (tnot (tval (dcall (dds := []) (ok_is_word S) (hr.mono (by decide)) S.g_is_word S.F_is_word.kp S.b_is_word .nil (fun _ => .nil) tk (acons (dv 0) anil))))
   (bone (sret ds)) bnil)
  (bcons (sif (tnot (tval (dcall (dds := []) (ok_is_word S) (hr.mono (by decide)) S.g_is_word S.F_is_word.kp S.b_is_word .nil (fun _ => .nil) tk (acons (dv 1) anil))))
   (bone (sret ds)) bnil)
  (bcons (sif (tnot (tval (dcall (dds := []) (ok_is_number S) (hr.mono (by decide)) S.g_is_number S.F_is_number.kp S.b_is_number .nil (fun _ => .nil) tk (acons (dv 2) (acons di (acons (dgl S.c_GREATEST_EPISODE S.r_GREATEST_EPISODE) anil))))))
   (bone (sret ds)) bnil)
  (bcons (sif (tnot (tval (dcall (dds := []) (ok_is_number S) (hr.mono (by decide)) S.g_is_number S.F_is_number.kp S.b_is_number .nil (fun _ => .nil) tk (acons (dv 3) (acons di (acons (dgl S.c_LATEST_BEGIN S.r_LATEST_BEGIN) anil))))))
   (bone (sret ds)) bnil)
  (bcons (sif (tnot (tval (dcall (dds := []) (ok_is_number S) (hr.mono (by decide)) S.g_is_number S.F_is_number.kp S.b_is_number .nil (fun _ => .nil) tk (acons (dv 4) (acons (dop op_add lr_add (dv 3) di) (acons (dgl S.c_LATEST_END S.r_LATEST_END) anil))))))
   (bone (sret ds)) bnil)
  (bcons (sif (tnot (tval (dcall (dds := []) (ok_is_number S) (hr.mono (by decide)) S.g_is_number S.F_is_number.kp S.b_is_number .nil (fun _ => .nil) tk (acons (dv 5) (acons di (acons (dgl S.c_MOST_LATE S.r_MOST_LATE) anil))))))
   (bone (sret ds)) bnil)
  (bone (sret dn)))))))))
  · (repeat (first | (obtain ⟨rfl, _⟩ := h; rfl) | (obtain ⟨_, h⟩ := h)))
  · rintro ss st ok ex ⟨c, s, e, b, n, l, rfl, hc, hs, he, hb, hn, hl, k⟩
    unfold wrongS at k
    walk_at "w"
    refine ⟨c, rfl, hc, ?_⟩
    cases h1 : wordD c with
    | false => walk_at "d"; walk_at "f"; rw [h1, cond_false] at k; exact k
    | true =>
    rw [h1, cond_true] at k
    walk_at "d"; walk_at "w"
    refine ⟨s, rfl, hs, ?_⟩
    cases h2 : wordD s with
    | false => walk_at "d"; walk_at "f"; rw [h2, cond_false] at k; exact k
    | true =>
    rw [h2, cond_true] at k
    walk_at "d"; walk_at "w"
    refine ⟨e, _, _, rfl, he, ?_⟩
    cases h3 : isNum e 1 999 with
    | false => walk_at "d"; walk_at "f"; rw [h3, cond_false] at k; exact k
    | true =>
    rw [h3, cond_true] at k
    walk_at "d"; walk_at "w"
    refine ⟨b, _, _, rfl, hb, ?_⟩
    cases h4 : isNum b 0 1000000 with
    | false => walk_at "d"; walk_at "f"; rw [h4, cond_false] at k; exact k
    | true =>
    rw [h4, cond_true] at k
    obtain ⟨b, rfl, -, -⟩ := isNum_int h4
    walk_at "d"; walk_at "w"
    refine ⟨n, _, _, rfl, hn, ?_⟩
    dsimp only [inI] at k
    cases h5 : isNum n (b + 1) 1000600 with
    | false => walk_at "d"; walk_at "f"; rw [h5, cond_false] at k; exact k
    | true =>
    rw [h5, cond_true] at k
    walk_at "d"; walk_at "w"
    refine ⟨l, _, _, rfl, hl, ?_⟩
    cases h6 : isNum l 0 60 with
    | false => walk_at "d"; walk_at "f"; rw [h6, cond_false] at k; exact k
    | true =>
    rw [h6, cond_true] at k
    walk_at "d"; walk_at "f"; exact k
theorem ok_Sending_init (S : En K mg) : FnOk P w K mg base (L2.CX P w) 3 S.f_Sending_init S.d_Sending_init ["self", "channel", "show", "episode", "begin", "end", "late"] (lowF K (ctInitS S.C_Sending S.C_InvalidSending)) := by
  refine fn_lowD _ S.F_Sending_init sc_Sending_init (fun ss st ok ex h => ?_) ?_ (fun cdv A outer s H E hr tk po => (bcons (sset 7 sc_Sending_init.nd (dcall (dds := []) (ok_wrong_part_listings S) (hr.mono (by decide)) S.g_wrong_part_listings S.F_wrong_part_listings.kp S.b_wrong_part_listings .nil (fun _ => .nil) tk (acons (dv 1) (acons (dv 2) (acons (dv 3) (acons (dv 4) (acons (dv 5) (acons (dv 6) anil))))))))
  (bcons (sif (tnotN (dv 7))
   (bone (sraise1 S.T_InvalidSending S.i_InvalidSending S.t_InvalidSending (ok_InvalidSending S) hr S.b_InvalidSending_init S.g_InvalidSending tk (acons (dv 7) anil))) bnil)
  (bcons (ssetF K (dv 1) (dv 0))
  (bcons (ssetF K (dv 2) (dv 0))
  (bcons (ssetF K (dv 3) (dv 0))
  (bcons (ssetF K (dv 4) (dv 0))
  (bcons (ssetF K (dv 5) (dv 0))
  (bone (ssetF K (dv 6) (dv 0)))))))))))
  · (repeat (first | (obtain ⟨rfl, _⟩ := h; rfl) | (obtain ⟨_, h⟩ := h)))
  · rintro ss st ok ex ⟨p, st0, a, b, c, d, e, g, rfl, rfl, ha, hb, hc, hd, he, hg, hx, hk⟩
    walk_at "w"
    refine ⟨a, b, c, d, e, g, rfl, ha, hb, hc, hd, he, hg, ?_⟩
    cases hw : wrongS a b c d e g with
    | some z =>
      walk_at "d"
      walk_at "w"
      exact ⟨st0, .cons _ (List.Sublist.refl _), hx z hw⟩
    | none =>
      walk_at "d"
      walk_at "w"
      refine ⟨0, _, _, _, rfl, S.cl_Sending, S.na_Sending_channel, (by show (0 : Nat) < 1000; decide), rfl, ?_⟩
      walk_at "w"
      refine ⟨0, _, _, _, rfl, S.cl_Sending, S.na_Sending_show, (by show (1 : Nat) < 1000; decide), rfl, ?_⟩
      walk_at "w"
      refine ⟨0, _, _, _, rfl, S.cl_Sending, S.na_Sending_episode, (by show (2 : Nat) < 1000; decide), rfl, ?_⟩
      walk_at "w"
      refine ⟨0, _, _, _, rfl, S.cl_Sending, S.na_Sending_begin, (by show (3 : Nat) < 1000; decide), rfl, ?_⟩
      walk_at "w"
      refine ⟨0, _, _, _, rfl, S.cl_Sending, S.na_Sending_end, (by show (4 : Nat) < 1000; decide), rfl, ?_⟩
      walk_at "w"
      refine ⟨0, _, _, _, rfl, S.cl_Sending, S.na_Sending_late, (by show (5 : Nat) < 1000; decide), rfl, ?_⟩
      walk_at "w"
      exact ⟨_, List.Sublist.refl _, hk hw⟩
theorem ok_difference (S : En K mg) : FnOk P w K mg base (L2.CX P w) 9 S.f_difference S.d_difference ["book", "other", "listing", "receivers"] (lowF K (ctDiff ⟨S.C_Book, S.C_Rule, S.C_Listing, S.C_Sending⟩ S.C_InvalidNumber)) := by
  refine fn_low _ S.F_difference sc_difference (fun ss st ok ex h => ?_) ?_ (fun cdv A outer s H E hr tk po => (bcons (sfor po (iL (dcall (dds := []) (ok_subsets S) (hr.mono (by decide)) S.g_subsets S.F_subsets.kp S.b_subsets .nil (fun _ => .nil) tk (acons (dprop S.cl_Listing S.p_Listing_names (ok_Listing_names S) (hr.mono (by decide)) S.b_Listing_names (dv 2)) (acons (dlenO S.sg_Listing_len S.fn_Listing_len (ok_Listing_len S) (hr.mono (by decide)) S.b_Listing_len S.n_len tk (dv 2)) anil)))) (gname 4 sc_difference.nd)
   (bcons (sset 5 sc_difference.nd (dmeth (dds := []) S.cl_Listing S.m_Listing_only (ok_Listing_only S) (hr.mono (by decide)) S.b_Listing_only .nil (fun _ => .nil) tk (dv 2) (acons (dv 4) anil)))
  (bone (sif (tcmp (op_neI (Nat.lt_of_succ_lt (hu1 hr))) lr_eqI (dcall (dds := []) (ok_own_plan S) (hr.mono (by decide)) S.g_own_plan S.F_own_plan.kp S.b_own_plan .nil (fun _ => .nil) tk (acons (dv 0) (acons (dv 5) (acons (dv 3) anil)))) (dcall (dds := []) (ok_own_plan S) (hr.mono (by decide)) S.g_own_plan S.F_own_plan.kp S.b_own_plan .nil (fun _ => .nil) tk (acons (dv 1) (acons (dv 5) (acons (dv 3) anil)))) (nomark _))
   (bone (sret (dv 4))) bnil))))
  (bone (sret dn))))
  · rcases h with ⟨_, _, _, _, rfl, _⟩ | ⟨_, _, _, _, rfl, _⟩ <;> rfl
  · rintro ss st ok ex (⟨b, b', l, k0, rfl, hb, hb', hl, hl7, hk1, hk2, k⟩ | ⟨b, b', l, d, rfl, hl, hl7, hd, k⟩)
    · walk_at "w"
      refine ⟨rfl, ?_⟩
      rw [ctNames_eq]
      refine ⟨l, rfl, ?_⟩
      walk_at "w"
      refine ⟨rfl, ?_⟩
      rw [ctLen_eq]
      refine ⟨l, rfl, ?_⟩
      walk_at "w"
      refine ⟨l.length, rfl, by have := hl.len; omega, ?_⟩
      walk_at "w"
      refine Or.inr ⟨l.map (·.1), l.length, by unfold nsD; rw [List.map_map]; rfl, by rw [List.length_map]; exact hl7, hl7, ?_⟩
      walk_at "w"
      refine loop_find (subsN (l.map (·.1)) l.length) nsD (differs b b' l k0) (fun Δ st' => ∃ v4 v5, Δ = [.dat (b.d ⟨S.C_Book, S.C_Rule, S.C_Listing, S.C_Sending⟩), .dat (b'.d ⟨S.C_Book, S.C_Rule, S.C_Listing, S.C_Sending⟩), .dat (lstD ⟨S.C_Book, S.C_Rule, S.C_Listing, S.C_Sending⟩ l), dI (k0 : Int), v4, v5] ∧ st' = st) (by rw [List.map_map]; rfl) ⟨.un, .un, rfl, rfl⟩ ?_ ?_
      · rintro i t Δ' st' hi J
        obtain ⟨v4, v5, rfl, rfl⟩ := J.r
        have hin := in_of hl (List.mem_of_getElem? hi)
        have hok := sub_ok hl hin
        walk_at "w"
        refine ⟨rfl, rfl, ?_⟩
        walk_at "w"
        rw [ctOnly_eq]
        refine ⟨l, t, rfl, hl, hin, ?_⟩
        walk_at "w"
        refine Or.inl (bl_at k0 rfl hb hok ⟨hk1, hk2⟩ ?_)
        walk_at "w"
        refine Or.inl (bl_at k0 rfl hb' hok ⟨hk1, hk2⟩ ?_)
        walk_at "w"
        refine ⟨kiI (ownPlan b (subL l t) k0), kiI (ownPlan b' (subL l t) k0), by unfold kiI svI; rw [List.map_map, List.map_map]; rfl, by unfold kiI svI; rw [List.map_map, List.map_map]; rfl, ?_⟩
        walk_at "w"
        rw [own_eq hok hok]
        refine ⟨fun h => ?_, fun h => ?_⟩
        · unfold leastDiff at k
          rw [fj_yes hi J (show differs b b' l k0 t = true from h)] at k
          walk_at "f"
          exact k
        · walk_at "w"
          exact fj_no hi J (show differs b b' l k0 t = false from h) ⟨_, _, rfl, rfl⟩
      · rintro Δ' st' ⟨v4, v5, rfl, rfl⟩ hf
        unfold leastDiff at k
        rw [hf] at k
        walk_at "f"
        exact k
    · walk_at "w"
      refine ⟨rfl, ?_⟩
      rw [ctNames_eq]
      refine ⟨l, rfl, ?_⟩
      walk_at "w"
      refine ⟨rfl, ?_⟩
      rw [ctLen_eq]
      refine ⟨l, rfl, ?_⟩
      walk_at "w"
      refine ⟨l.length, rfl, by have := hl.len; omega, ?_⟩
      walk_at "w"
      refine Or.inr ⟨l.map (·.1), l.length, by unfold nsD; rw [List.map_map]; rfl, by rw [List.length_map]; exact hl7, hl7, ?_⟩
      walk_at "w"
      refine loop_find (subsN (l.map (·.1)) l.length) nsD (fun _ => true) (fun Δ st' => ∃ v4 v5, Δ = [.dat (b.d ⟨S.C_Book, S.C_Rule, S.C_Listing, S.C_Sending⟩), .dat (b'.d ⟨S.C_Book, S.C_Rule, S.C_Listing, S.C_Sending⟩), .dat (lstD ⟨S.C_Book, S.C_Rule, S.C_Listing, S.C_Sending⟩ l), .dat d, v4, v5] ∧ st' = st) (by rw [List.map_map]; rfl) ⟨.un, .un, rfl, rfl⟩ ?_ ?_
      · rintro i t Δ' st' hi J
        obtain ⟨v4, v5, rfl, rfl⟩ := J.r
        have hin := in_of hl (List.mem_of_getElem? hi)
        walk_at "w"
        refine ⟨rfl, rfl, ?_⟩
        walk_at "w"
        rw [ctOnly_eq]
        refine ⟨l, t, rfl, hl, hin, ?_⟩
        walk_at "w"
        refine Or.inr ⟨b, subL l t, d, rfl, hd, ?_⟩
        exact ⟨_, List.Sublist.refl _, k⟩
      · rintro Δ' st' ⟨v4, v5, rfl, rfl⟩ hf
        obtain ⟨r, hr⟩ := subs_head (l.map (·.1)) l.length
        rw [hr] at hf
        cases hf
theorem ok_law_mix (S : En K mg) : FnOk P w K mg base (L2.CX P w) 1 S.f_law_mix S.d_law_mix ["_law_script", "_law_seed"] (lowF K ctMix) := by
  refine fn_low _ S.F_law_mix sc_law_mix (fun ss st ok ex h => ?_) ?_ (fun cdv A outer s H E hr tk po => (bcons (sset 2 sc_law_mix.nd (dv 1))
  (bcons (sfor po (iL (dv 0)) (gname 3 sc_law_mix.nd)
   (bone (sset 2 sc_law_mix.nd (dop op_mod lr_mod (dct call_int1 lc_int S.n_int PyProof.Rows.boot_int (acons (dop op_add lr_add (dop op_add lr_add (dop op_mul lr_mul (dv 2) di) (dop op_mod lr_mod (dct call_int1 lc_int S.n_int PyProof.Rows.boot_int (acons (dv 3) anil)) di)) di) anil)) di))))
  (bone (sret (dlstO (acons (dv 2) (acons (dct call_list_of lc_listLO S.n_list PyProof.Rows.boot_list (acons (dv 0) anil)) (acons di anil)))))))))
  · (repeat (first | (obtain ⟨rfl, _⟩ := h; rfl) | (obtain ⟨_, h⟩ := h)))
  · rintro ss st ok ex ⟨ns, seed, rfl, hl, k⟩
    walk_at "w"
    refine loop_fold ns Dt.int (fun (_ : Unit) _ => ()) () (fun _ Δ' st' => ∃ a v, Δ' = [.dat (.fls (ns.map Dt.int)), dI seed, dI a, v] ∧ st' = st) (by rw [List.map_map]; rfl) ⟨seed, .un, rfl, rfl⟩ ?_ ?_
    · rintro pre z post s Δ' st' - - ⟨a, v, rfl, rfl⟩
      walk_at "w"
      refine ⟨.inr (by decide), ?_⟩
      walk_at "w"
      refine ⟨by show (0 : Int) < 2147483629; decide, ?_⟩
      walk_at "w"
      refine ⟨by show (0 : Int) < 2147483647; decide, ?_⟩
      exact ⟨_, _, rfl, rfl⟩
    · rintro Δ' st' ⟨a, v, rfl, rfl⟩
      walk_at "w"
      intro q hq
      walk_at "w"
      refine ⟨by show 3 ≤ sizeLine; decide, ?_⟩
      walk_at "w"
      intro p hp
      walk_at "f"
      have hne : p ≠ q := fun z => hp (z ▸ List.mem_cons_self)
      have kk := k p q a hne (fun z => hp (List.mem_cons_of_mem _ z)) hq
      unfold obX at kk
      rw [List.map_map]
      exact kk
theorem ok_law_next (S : En K mg) : FnOk P w K mg base (L2.CX P w) 1 S.f_law_next S.d_law_next ["_law_h", "_law_limit"] (lowF K ctNext) := by
  refine fn_low _ S.F_law_next sc_law_next (fun ss st ok ex h => ?_) ?_ (fun cdv A outer s H E hr tk po => (bcons (sset 2 sc_law_next.nd (dix ix_list lr_ixL (dop op_cat lr_cat (dix ix_list lr_ixL (dv 0) di) (dlst (acons di anil))) (dop op_mod lr_mod (dct call_int1 lc_int S.n_int PyProof.Rows.boot_int (acons (dix ix_list lr_ixL (dv 0) di) anil)) (dcb (call_max2 rfl) lc_max2 S.n_max PyProof.Rows.boot_max (acons di (acons (dcb call_len_seq lc_lenL S.n_len PySem.boot_len (acons (dix ix_list lr_ixL (dv 0) di) anil)) anil))))))
  (bcons (sif (tcmp op_ge lr_ge (dv 2) (dop op_pow lr_pow di di) (nomark _))
   (bcons (ssetL (dop op_fdiv lr_div (dv 2) (dv 1)) (dix ix_list lr_ixL (dv 0) di) (dop op_mod lr_mod (dct call_int1 lc_int S.n_int PyProof.Rows.boot_int (acons (dix ix_list lr_ixL (dv 0) di) anil)) (dcb call_len_seq lc_lenL S.n_len PySem.boot_len (acons (dix ix_list lr_ixL (dv 0) di) anil))))
  (bone (sret (dop op_mod lr_mod (dct call_int1 lc_int S.n_int PyProof.Rows.boot_int (acons (dv 2) anil)) (dv 1))))) bnil)
  (bcons (ssetL (dop op_mod lr_mod (dct call_int1 lc_int S.n_int PyProof.Rows.boot_int (acons (dop op_add lr_add (dop op_add lr_add (dop op_mul lr_mul (dix ix_list lr_ixL (dv 0) di) di) (dop op_mul lr_mul (dv 2) di)) di) anil)) di) (dv 0) di)
  (bcons (ssetL (dop op_add lr_add (dix ix_list lr_ixL (dv 0) di) di) (dv 0) di)
  (bone (sret (dop op_mod lr_mod (dct call_int1 lc_int S.n_int PyProof.Rows.boot_int (acons (dop op_fdiv lr_div (dix ix_list lr_ixL (dv 0) di) di) anil)) (dv 1)))))))))
  · exact next_len h
  · rintro ss st ok ex h
    rw [ctNext_eq] at h
    obtain ⟨p, q, a, i, xs, lim, j1, j2, rfl, l0, l1, jj, hp, hq, hx, k⟩ := h
    walk_at "dd"
    refine ⟨by simp [sizeLine_eq]; omega, _, .app (.mapf _ _) (.cons .nil), ?_⟩
    walk_at "dd"
    walk_at "w"
    obtain ⟨m, em, m0, m1⟩ : ∃ m : Int, (if ((List.map dI xs).length : Int) > 1 then ((List.map dI xs).length : Int) else 1) = m ∧ 0 < m ∧ m ≤ xs.length + 1 ∧ (0 < xs.length → m = xs.length) := ⟨_, rfl, by split <;> omega, by simp only [List.length_map]; split <;> omega, fun h => by simp only [List.length_map]; split <;> omega⟩
    rw [em]
    refine ⟨m0, ?_⟩
    walk_at "w"
    have mm0 := Int.emod_nonneg i (Int.ne_of_gt m0)
    have mm1 := Int.emod_lt_of_pos i m0
    obtain ⟨c, hc, hcell⟩ : ∃ c, atI (List.map Sv.dat (List.map Dt.int xs ++ [Dt.int 0])) (i % m) = some (dI c) ∧ (xs.length = 0 → c = 0) := by
      obtain ⟨y, h1, h2⟩ := atI_of (xs := List.map Sv.dat (List.map Dt.int xs ++ [Dt.int 0])) mm0 (by simp; omega)
      rw [h2]
      have h1' := h1
      simp only [List.map_append, List.map_map, List.map_cons, List.map_nil] at h1'
      by_cases hl : (i % m).toNat < xs.length
      · rw [List.getElem?_append_left (by simp; exact hl), List.getElem?_map, List.getElem?_eq_getElem hl] at h1'
        cases h1'
        exact ⟨_, rfl, fun z => by omega⟩
      · rw [List.getElem?_append_right (by simp; omega)] at h1'
        have : (i % m).toNat - (List.map (Sv.dat ∘ Dt.int) xs).length = 0 := by simp; omega
        rw [this] at h1'
        cases h1'
        exact ⟨_, rfl, fun _ => rfl⟩
    refine ⟨_, hc, ?_⟩
    walk_at "w"
    refine ⟨by unfold CPow; decide, ?_⟩
    walk_at "w"
    refine ⟨fun hb => ?_, fun hb => ?_⟩
    · walk_at "w"
      refine ⟨⟨l0, l1⟩, ?_⟩
      walk_at "dd"
      walk_at "w"
      have hpos : 0 < xs.length := by
        have hge : (10 : Int) ^ ((18 : Int).toNat) ≤ c := of_decide_eq_true hb
        have e18 : (10 : Int) ^ ((18 : Int).toNat) = 1000000000000000000 := by decide
        by_cases z : xs.length = 0
        · have := hcell z
          omega
        · omega
      rw [List.length_map]
      have hL : (0 : Int) < (xs.length : Int) := by omega
      refine ⟨hL, ?_⟩
      walk_at "w"
      have b0 := Int.emod_nonneg i (Int.ne_of_gt hL)
      have b1 := Int.emod_lt_of_pos i hL
      refine ⟨_, _, (i % (xs.length : Int)).toNat, hq, by unfold ixN; rw [if_pos b0, if_pos (by simpa using b1)], ?_⟩
      walk_at "w"
      refine ⟨l0, ?_⟩
      walk_at "f"
      have kk := k (c % lim) a i (xs.set (i % (xs.length : Int)).toNat (c / lim)) (Int.emod_nonneg _ (Int.ne_of_gt l0)) (Int.emod_lt_of_pos _ l0) (by simp)
      rw [set_self hp] at kk
      unfold obX at kk
      rw [List.map_set] at kk
      exact kk
    · walk_at "w"
      refine ⟨_, _, hp, ?_⟩
      walk_at "dd"
      walk_at "w"
      refine ⟨.inr (by decide), ?_⟩
      walk_at "w"
      refine ⟨.inr (by decide), ?_⟩
      walk_at "w"
      refine ⟨by show (0 : Int) < 2147483647; decide, ?_⟩
      walk_at "w"
      refine ⟨_, _, 0, hp, rfl, ?_⟩
      walk_at "w"
      refine ⟨_, _, set_at hp, ?_⟩
      walk_at "dd"
      walk_at "w"
      refine ⟨_, _, 2, set_at hp, rfl, ?_⟩
      walk_at "w"
      refine ⟨_, _, set_at (set_at hp), ?_⟩
      walk_at "dd"
      walk_at "w"
      refine ⟨⟨by decide, by decide⟩, ?_⟩
      walk_at "w"
      refine ⟨l0, ?_⟩
      walk_at "f"
      have kk := k ((a * 48271 + c * 69621 + 11) % 2147483647 / 7 % lim) ((a * 48271 + c * 69621 + 11) % 2147483647) (i + 1) xs (Int.emod_nonneg _ (Int.ne_of_gt l0)) (Int.emod_lt_of_pos _ l0) rfl
      rw [set_self (by rw [List.getElem?_set_ne jj]; exact hq)] at kk
      rw [List.set_set]
      exact kk
theorem step_law_alike (S : En K mg) (n : Nat) (ih : FnOk P w K mg base (L2.CX P w) n S.f_law_alike S.d_law_alike ["_law_found", "_law_due"] (lowF K (ctAlikeX n))) : FnOk P w K mg base (L2.CX P w) (n + 1) S.f_law_alike S.d_law_alike ["_law_found", "_law_due"] (lowF K (ctAlikeX (n + 1))) := by
  refine fn_low _ S.F_law_alike sc_law_alike (fun ss st ok ex h => ?_) ?_ (fun cdv A outer s H E hr tk po => (bcons (sif (tval (disi K S.n_isinstance S.n_dict kb_dict (dv 1)))
   (bone (sret (dand (disi K S.n_isinstance S.n_dict kb_dict (dv 0)) (dand (dcall (dds := []) ih hr S.g_law_alike S.F_law_alike.kp S.b_law_alike .nil (fun _ => .nil) tk (acons (dcb (call_sortedD rfl) lc_sortK S.n_sorted PyProof.Rows.boot_sorted (acons (dv 0) anil)) (acons (dcb (call_sortedD rfl) lc_sortK S.n_sorted PyProof.Rows.boot_sorted (acons (dv 1) anil)) anil))) (done (dcmp (op_eqI (Nat.lt_of_succ_lt (hu1 hr))) lr_eqI (dv 0) (dv 1) (nomark _))))))) bnil)
  (bcons (sif (tval (disi2 K S.n_isinstance S.n_tuple S.n_list kb_tuple kb_list (dv 1)))
   (bcons (sif (tw (wor (tnot (tval (disi2 K S.n_isinstance S.n_tuple S.n_list kb_tuple kb_list (dv 0)))) (wor1 (tcmp op_ne lr_neS (disi K S.n_isinstance S.n_list kb_list (dv 0)) (disi K S.n_isinstance S.n_list kb_list (dv 1)) (nomark _)))))
   (bone (sret db)) bnil)
  (bcons (sif (tcmp op_ne lr_neS (deither (dcb call_len_seq lc_lenL S.n_len PySem.boot_len (acons (dv 0) anil)) (dcb call_len_seq lc_lenT S.n_len PySem.boot_len (acons (dv 0) anil))) (deither (dcb call_len_seq lc_lenL S.n_len PySem.boot_len (acons (dv 1) anil)) (dcb call_len_seq lc_lenT S.n_len PySem.boot_len (acons (dv 1) anil))) (nomark _))
   (bone (sret db)) bnil)
  (bone (sret (dcmp (op_eqD (hu64 hr)) lr_eqP (dlc [("_law_k", 2)] sc_law_alike.nd (iR S.n_range (acons (deither (dcb call_len_seq lc_lenL S.n_len PySem.boot_len (acons (dv 1) anil)) (dcb call_len_seq lc_lenT S.n_len PySem.boot_len (acons (dv 1) anil))) anil)) (blkOk_by (N := ["_law_found", "_law_due", "_law_k"]) (sc := defScope s_law_alike) (by decide +kernel)) (fun _ _ _ _ _ => (gwname 2 sc_law_alike.nd)) (fun _ _ _ _ _ => (tsone (tnot (tval (dcall (dds := []) ih hr S.g_law_alike S.F_law_alike.kp S.b_law_alike .nil (fun _ => .nil) takes0 (acons (deither (dix ix_list lr_ixL (dv 0) (dv 2)) (dix ix_tup lr_ixT (dv 0) (dv 2))) (acons (deither (dix ix_list lr_ixL (dv 1) (dv 2)) (dix ix_tup lr_ixT (dv 1) (dv 2))) anil))))))) (fun _ _ _ _ _ => (dv 2))) (dlst anil) (nomark _)))))) bnil)
  (bcons (sif (tw (wor (tisN (dv 1)) (wor1 (tval (disi K S.n_isinstance S.n_str kb_str (dv 1))))))
   (bone (sret (dand (dcmp op_eq lr_eqS (dv 0) (dv 1) (nomark _)) (done (dcmp op_eq lr_eqS (disi K S.n_isinstance S.n_str kb_str (dv 0)) (disi K S.n_isinstance S.n_str kb_str (dv 1)) (nomark _)))))) bnil)
  (bone (sret (dand (disi K S.n_isinstance S.n_int kb_int (dv 0)) (dand (dcmp op_eq lr_eqS (disi K S.n_isinstance S.n_bool kb_bool (dv 0)) (disi K S.n_isinstance S.n_bool kb_bool (dv 1)) (nomark _)) (done (dcmp op_eq lr_eqS (dv 0) (dv 1) (nomark _)))))))))))
  · exact alikeX_len h
  · rintro ss st ok ex ⟨d, rfl, hd, k⟩
    · cases hd with
      | non n =>
        walk_at "ss"
        exact ⟨_, _, .keep (List.Sublist.refl _), k⟩
      | bl n i =>
        walk_at "ss"
        exact ⟨_, _, .keep (List.Sublist.refl _), (decide_eq_true (rfl : i = i)).symm ▸ k⟩
      | int n i =>
        walk_at "ss"
        exact ⟨_, _, .keep (List.Sublist.refl _), (decide_eq_true (rfl : i = i)).symm ▸ k⟩
      | str n i =>
        walk_at "ss"
        exact ⟨_, _, .keep (List.Sublist.refl _), k⟩
      | lst h l =>
        rename_i ds
        walk_at "sl"
        have hn : ((ds.map Sv.dat).length : Int) = ds.length := by rw [List.length_map]
        have hz := sizeLine_eq
        refine ⟨by rw [hn]; omega, by rw [hn]; omega, ?_⟩
        walk_at "w"
        refine lc_pure (List.range ds.length) (fun (i : Nat) => .int (0 + (i : Int))) (fun _ => none) (by unfold rngS; rw [hn, Int.toNat_natCast]) ?_ ?_
        · intro i a D acc ha hD J
          have hi : a < ds.length := List.mem_range.mp (List.mem_of_getElem? ha)
          have hat : atI (ds.map Sv.dat) (0 + (a : Int)) = some (.dat ds[a]) := by
            refine atI_get (by omega) ?_
            have e : (0 + (a : Int)).toNat = a := by omega
            rw [e, List.getElem?_map, List.getElem?_eq_getElem hi]
            rfl
          walk_at "sl"
          refine ⟨_, hat, ?_⟩
          walk_at "sl"
          refine ⟨_, hat, ?_⟩
          walk_at "w"
          refine ⟨ds[a], rfl, h _ (List.getElem_mem hi), ?_⟩
          walk_at "sl"
          exact lc_no ha J rfl
        · walk_at "w"
          refine ⟨by decide, ?_⟩
          walk_at "w"
          have e0 : (List.range ds.length).filterMap (fun _ => (none : Option Dt)) = [] := by rw [List.filterMap_eq_nil_iff]; intros; rfl
          rw [e0]
          refine ⟨.list [], .list [], .lst .nil, .lst .nil, by decide, by decide, ?_⟩
          walk_at "f"
          exact k
      | tup h l =>
        rename_i ds
        walk_at "sr"
        have hn : ((ds.map Sv.dat).length : Int) = ds.length := by rw [List.length_map]
        have hz := sizeLine_eq
        refine ⟨by rw [hn]; omega, by rw [hn]; omega, ?_⟩
        walk_at "w"
        refine lc_pure (List.range ds.length) (fun (i : Nat) => .int (0 + (i : Int))) (fun _ => none) (by unfold rngS; rw [hn, Int.toNat_natCast]) ?_ ?_
        · intro i a D acc ha hD J
          have hi : a < ds.length := List.mem_range.mp (List.mem_of_getElem? ha)
          have hat : atI (ds.map Sv.dat) (0 + (a : Int)) = some (.dat ds[a]) := by
            refine atI_get (by omega) ?_
            have e : (0 + (a : Int)).toNat = a := by omega
            rw [e, List.getElem?_map, List.getElem?_eq_getElem hi]
            rfl
          walk_at "sr"
          refine ⟨_, hat, ?_⟩
          walk_at "sr"
          refine ⟨_, hat, ?_⟩
          walk_at "w"
          refine ⟨ds[a], rfl, h _ (List.getElem_mem hi), ?_⟩
          walk_at "sr"
          exact lc_no ha J rfl
        · walk_at "w"
          refine ⟨by decide, ?_⟩
          walk_at "w"
          have e0 : (List.range ds.length).filterMap (fun _ => (none : Option Dt)) = [] := by rw [List.filterMap_eq_nil_iff]; intros; rfl
          rw [e0]
          refine ⟨.list [], .list [], .lst .nil, .lst .nil, by decide, by decide, ?_⟩
          walk_at "f"
          exact k
      | plan n hnd hl =>
        rename_i p
        have hkd : ((p.map fun x => ((.inr x.1 : Key), Dt.int x.2)).map fun x => (x.1, Sv.dat x.2)).map (·.1) = (p.map (·.1)).map Sum.inr := by rw [List.map_map, List.map_map, List.map_map]; rfl
        have hlk : (p.map (·.1)).length < 64 := by rw [List.length_map]; omega
        walk_at "ss"
        refine ⟨p.map (·.1), hkd, hlk, fun y1 hp1 hs1 => ?_⟩
        walk_at "w"
        refine ⟨p.map (·.1), hkd, hlk, fun y2 hp2 hs2 => ?_⟩
        obtain rfl := (sorted_is hp1 hs1).trans (sorted_is hp2 hs2).symm
        walk_at "w"
        refine ⟨_, rfl, (names_pl y1 (by rw [hp1.length_eq, sizeLine_eq]; omega)).x, ?_⟩
        walk_at "ss"
        refine ⟨kiI p, kiI p, by unfold kiI svI; rw [List.map_map, List.map_map]; rfl, by unfold kiI svI; rw [List.map_map, List.map_map]; rfl, ?_⟩
        rw [ki_self hnd]
        walk_at "ss"
        exact ⟨_, _, .keep (List.Sublist.refl _), k⟩
theorem ok_law_alike (S : En K mg) : ∀ n, FnOk P w K mg base (L2.CX P w) n S.f_law_alike S.d_law_alike ["_law_found", "_law_due"] (lowF K (ctAlikeX n))
  | 0 => fn_none fun ss st ok ex h => (alikeX_zero h).elim
  | n + 1 => step_law_alike S n (ok_law_alike S n)
theorem ok_law_sendings (S : En K mg) : FnOk P w K mg base (L2.CX P w) 2 S.f_law_sendings S.d_law_sendings ["_law_h", "_law_many"] (lowF K ctLSendsL) := by
  refine fn_low _ S.F_law_sendings sc_law_sendings (fun ss st ok ex h => ?_) ?_ (fun cdv A outer s H E hr tk po => (bcons (sset 2 sc_law_sendings.nd ddnew)
  (bcons (sfor po (iL (dslL (dlst (acons ds (acons ds (acons ds (acons ds (acons ds (acons ds (acons ds anil)))))))) onone (osome (dcall (dds := []) (ok_law_next S) (hr.mono (by decide)) S.g_law_next S.F_law_next.kp S.b_law_next .nil (fun _ => .nil) tk (acons (dv 0) (acons (dop op_add lr_add (dv 1) di) anil)))))) (gname 3 sc_law_sendings.nd)
   (bcons (spar 4 5 sc_law_sendings.nd (acons (dcall (dds := []) (ok_law_next S) (hr.mono (by decide)) S.g_law_next S.F_law_next.kp S.b_law_next .nil (fun _ => .nil) tk (acons (dv 0) (acons di anil))) (acons (dix ix_list lr_ixL (dlst (acons ds (acons ds (acons ds anil)))) (dcall (dds := []) (ok_law_next S) (hr.mono (by decide)) S.g_law_next S.F_law_next.kp S.b_law_next .nil (fun _ => .nil) tk (acons (dv 0) (acons di anil)))) anil)))
  (bcons (spar 6 7 sc_law_sendings.nd (acons (dix ix_list lr_ixL (dlst (acons di (acons di (acons di (acons di anil))))) (dcall (dds := []) (ok_law_next S) (hr.mono (by decide)) S.g_law_next S.F_law_next.kp S.b_law_next .nil (fun _ => .nil) tk (acons (dv 0) (acons di anil)))) (acons (dop op_add lr_add (dop op_add lr_add (dv 4) di) (dcall (dds := []) (ok_law_next S) (hr.mono (by decide)) S.g_law_next S.F_law_next.kp S.b_law_next .nil (fun _ => .nil) tk (acons (dv 0) (acons di anil)))) anil)))
  (bone (sdput (hu1 hr) (dtup (acons (dix ix_list lr_ixL (dlst (acons ds (acons ds anil))) (dcall (dds := []) (ok_law_next S) (hr.mono (by decide)) S.g_law_next S.F_law_next.kp S.b_law_next .nil (fun _ => .nil) tk (acons (dv 0) (acons di anil)))) (acons (dv 5) (acons (dop op_add lr_add di (dcall (dds := []) (ok_law_next S) (hr.mono (by decide)) S.g_law_next S.F_law_next.kp S.b_law_next .nil (fun _ => .nil) tk (acons (dv 0) (acons di anil)))) (acons (dv 4) (acons (dv 7) (acons (dv 6) anil))))))) (dv 2) (dv 3))))))
  (bone (sret (dv 2))))))
  · rw [ctLSendsL_eq] at h; obtain ⟨_, _, _, _, _, _, _, rfl, _⟩ := h; rfl
  · intro ss st ok ex h
    rw [ctLSendsL_eq] at h
    obtain ⟨p, q, a, i, xs, st0, m, rfl, rfl, hx, m0, m1, k⟩ := h
    walk_at "w"
    intro d hd
    walk_at "zz"
    refine next_at1 (by omega) (by omega) hx fun cnt a i xs c0 c1 hx => ?_
    walk_at "w"
    refine ⟨(sevenN.take cnt.toNat).map Dt.str, ?_, ?_⟩
    · rw [cut_take _ c0]
      show AllD (((sevenN.map Dt.str).map Sv.dat).take cnt.toNat) _
      rw [← List.map_take, ← List.map_take]
      exact .map _
    walk_at "w"
    refine loop_fold (sevenN.take cnt.toNat) (fun n => .str n) (fun s n => s ++ [n]) [] (fun ns Δ' st' => ∃ v3 v4 v5 v6 v7 a i xs, ∃ s : Lst, Δ' = [.own p, dI m, .own d, v3, v4, v5, v6, v7] ∧ st' = (d, .dic (s.map fun x => ((Sum.inr x.1 : Key), Sv.dat (sndT x.2)))) :: (p, obH q a i) :: (q, obX xs) :: st0 ∧ xs.length ≤ 63 ∧ s.map (·.1) = ns ∧ ∀ x ∈ s, SOk x.2 ∧ x.2.show_ ≠ "zoo" ∧ x.2.begin_ ≤ 39 ∧ x.2.end_ ≤ 58 ∧ x.2.begin_ + 5 ≤ x.2.end_ ∧ x.2.show_ ∈ threeW ∧ x.2.late ≤ 4) (by rw [List.map_map]; rfl) ⟨.un, .un, .un, .un, .un, a, i, xs, [], rfl, rfl, hx, rfl, fun x h => (by cases h)⟩ ?_ ?_
    · rintro pre n post ns Δ' st' has hns ⟨v3, v4, v5, v6, v7, a, i, xs, s, rfl, rfl, hx, hs1, hs2⟩
      walk_at "w"
      refine next_at1 (by decide) (by decide) hx fun bg a i xs bg0 bg1 hx => ?_
      walk_at "zz"
      refine next_at1 (by decide) (by decide) hx fun ti a i xs ti0 ti1 hx => ?_
      walk_at "w"
      obtain ⟨z, hz, hz3, hat⟩ := word_at2 three_word ti0 (by show ti < 3; omega)
      have hzoo : z ≠ "zoo" := fun e => by subst e; exact absurd hz3 (by decide +kernel)
      refine ⟨_, hat, ?_⟩
      walk_at "zz"
      refine next_at1 (by decide) (by decide) hx fun lk a i xs lk0 lk1 hx => ?_
      walk_at "w"
      obtain ⟨la, hla, hlat⟩ := num_at [0, 0, 1, 4] lk0 (by show lk < 4; omega)
      refine ⟨_, hlat, ?_⟩
      have hla2 : 0 ≤ la ∧ la ≤ 4 := by
        simp only [List.mem_cons, List.not_mem_nil, or_false] at hla
        omega
      walk_at "w"
      refine next_at1 (by decide) (by decide) hx fun m2 a i xs m20 m21 hx => ?_
      walk_at "zz"
      refine next_at1 (by decide) (by decide) hx fun ci a i xs ci0 ci1 hx => ?_
      walk_at "w"
      obtain ⟨ch, hch, hchat⟩ := word_at chan_word ci0 (by show ci < 2; omega)
      refine ⟨_, hchat, ?_⟩
      walk_at "w"
      refine next_at1 (by decide) (by decide) hx fun ep a i xs ep0 ep1 hx => ?_
      walk_at "zz"
      have hs0 : ns = pre := by rw [hns, fold_snoc (fun n : Str => n)]; simp
      have hsl : s.length ≤ 10 := by
        have h1 := congrArg List.length hs1
        have h2 := congrArg List.length has
        rw [List.length_map, hs0] at h1
        rw [List.length_append, List.length_cons, List.length_take] at h2
        have h3 : sevenN.length = 7 := rfl
        omega
      refine ⟨0, _, .inr n, rfl, rfl, by rw [List.length_map, sizeLine_eq]; omega, ?_⟩
      walk_at "w"
      have hnew : (Sum.inr n : Key) ∉ (s.map fun x => ((Sum.inr x.1 : Key), Sv.dat (sndT x.2))).map (·.1) := by
        rw [List.map_map]
        intro q'
        obtain ⟨y, hy, e1⟩ := List.mem_map.mp q'
        have e2 : y.1 = n := Sum.inr.inj e1
        have h1 : n ∈ pre := by rw [← hs0, ← hs1, ← e2]; exact List.mem_map.mpr ⟨y, hy, rfl⟩
        have nd : (sevenN.take cnt.toNat).Nodup := (seven_sorted.imp fun {a b} k e => by subst e; exact absurd k (List.lt_irrefl _)).sublist (List.take_sublist _ _)
        rw [has] at nd
        exact (List.nodup_append.mp nd).2.2 n h1 n List.mem_cons_self rfl
      rw [putD_new hnew]
      refine ⟨_, _, _, _, _, a, i, xs, s ++ [(n, ⟨ch, z, 1 + ep, bg, bg + 5 + m2, la⟩)], rfl, by rw [List.map_append]; rfl, hx, by rw [List.map_append, hs1]; rfl, fun x hx => ?_⟩
      rcases List.mem_append.mp hx with hx | hx
      · exact hs2 x hx
      · rw [List.mem_singleton.mp hx]
        exact ⟨by refine ⟨hch, hz, ?_, ?_, ?_, ?_, ?_, ?_, ?_, ?_⟩ <;> dsimp only <;> omega, hzoo, by dsimp only; omega, by dsimp only; omega, by dsimp only; omega, hz3, by dsimp only; omega⟩
    · rintro Δ' st' ⟨v3, v4, v5, v6, v7, a, i, xs, s, rfl, rfl, hx, hs1, hs2⟩
      have hs0 : s.map (·.1) = sevenN.take cnt.toNat := by rw [hs1, fold_snoc (fun n : Str => n)]; simp
      have hsn : ∀ x ∈ s, x.1 ∈ sevenN := fun x hx => (List.take_sublist _ _).subset (by rw [← hs0]; exact List.mem_map.mpr ⟨x, hx, rfl⟩)
      have hsl : s.length ≤ cnt.toNat := by have := congrArg List.length hs0; rw [List.length_map, List.length_take] at this; omega
      have hlok : LOk s := ⟨by omega, by rw [hs0]; exact seven_sorted.sublist (List.take_sublist _ _), fun x hx => ⟨seven_word _ (hsn x hx), (hs2 x hx).1⟩⟩
      walk_at "w"
      refine ⟨.dat (dicD sndT s), (p, obH q a i) :: (q, obX xs) :: st0, .pub (j := 0) rfl (.dic ?_) (fun z => hd z) (.cons _ (List.Sublist.refl _)), ?_⟩
      · have := allK_map (s.map fun x => ((Sum.inr x.1 : Key), sndT x.2))
        rw [List.map_map] at this
        exact this
      · exact k s a i xs hlok (fun x hx => ⟨⟨⟨hsn x hx, (hs2 x hx).2.1⟩, (hs2 x hx).2.2.1, (hs2 x hx).2.2.2.1, (hs2 x hx).2.2.2.2.1, (hs2 x hx).2.2.2.2.2.1⟩, (hs2 x hx).2.2.2.2.2.2⟩) (by omega) hx
theorem ok_law_rules (S : En K mg) : FnOk P w K mg base (L2.CX P w) 2 S.f_law_rules S.d_law_rules ["_law_h", "_law_many"] (lowF K ctLRulesB) := by
  refine fn_low _ S.F_law_rules sc_law_rules (fun ss st ok ex h => ?_) ?_ (fun cdv A outer s H E hr tk po => (bcons (sset 2 sc_law_rules.nd (dlstO anil))
  (bcons (sfor po (iR S.n_range (acons (dcall (dds := []) (ok_law_next S) (hr.mono (by decide)) S.g_law_next S.F_law_next.kp S.b_law_next .nil (fun _ => .nil) tk (acons (dv 0) (acons (dop op_add lr_add (dv 1) di) anil))) anil)) (gname 3 sc_law_rules.nd)
   (bcons (sset 4 sc_law_rules.nd (dop op_add lr_add di (dcall (dds := []) (ok_law_next S) (hr.mono (by decide)) S.g_law_next S.F_law_next.kp S.b_law_next .nil (fun _ => .nil) tk (acons (dv 0) (acons di anil)))))
  (bcons (sset 5 sc_law_rules.nd (dtup (acons (dix ix_list lr_ixL (dlst (acons di (acons di (acons di anil)))) (dcall (dds := []) (ok_law_next S) (hr.mono (by decide)) S.g_law_next S.F_law_next.kp S.b_law_next .nil (fun _ => .nil) tk (acons (dv 0) (acons di anil)))) (acons (dix ix_list lr_ixL (dlst (acons di (acons di (acons di (acons di anil))))) (dcall (dds := []) (ok_law_next S) (hr.mono (by decide)) S.g_law_next S.F_law_next.kp S.b_law_next .nil (fun _ => .nil) tk (acons (dv 0) (acons di anil)))) anil))))
  (bcons (sset 6 sc_law_rules.nd (dix ix_list lr_ixL (dlst (acons ds (acons ds (acons ds anil)))) (dcall (dds := []) (ok_law_next S) (hr.mono (by decide)) S.g_law_next S.F_law_next.kp S.b_law_next .nil (fun _ => .nil) tk (acons (dv 0) (acons di anil)))))
  (bone (sapp (dv 2) (dop op_catA lr_catU (dtup (acons (dv 6) (acons (dv 4) (acons (dop op_add lr_add (dv 4) (dcall (dds := []) (ok_law_next S) (hr.mono (by decide)) S.g_law_next S.F_law_next.kp S.b_law_next .nil (fun _ => .nil) tk (acons (dv 0) (acons di anil)))) (acons (dop op_add lr_add di (dcall (dds := []) (ok_law_next S) (hr.mono (by decide)) S.g_law_next S.F_law_next.kp S.b_law_next .nil (fun _ => .nil) tk (acons (dv 0) (acons di anil)))) anil))))) (dv 5))))))))
  (bone (sret (dv 2))))))
  · rw [ctLRulesB_eq] at h; obtain ⟨_, _, _, _, _, _, _, rfl, _⟩ := h; rfl
  · intro ss st ok ex h
    rw [ctLRulesB_eq] at h
    obtain ⟨p, q, a, i, xs, st0, m, rfl, rfl, hx, m0, m1, k⟩ := h
    walk_at "zz"
    intro d hd
    walk_at "w"
    refine next_at1 (by omega) (by omega) hx fun cnt a i xs c0 c1 hx => ?_
    walk_at "w"
    refine ⟨by omega, by omega, ?_⟩
    walk_at "w"
    refine loop_fold (List.range cnt.toNat) (fun i => .int (0 + (i : Int))) (fun c _ => c + 1) 0 (fun c Δ' st' => ∃ v3 v4 v5 v6 a i xs, ∃ t : List Rul, Δ' = [.own p, dI m, .own d, v3, v4, v5, v6] ∧ st' = (d, .lst (t.map fun x => .dat (rulT x))) :: (p, obH q a i) :: (q, obX xs) :: st0 ∧ xs.length ≤ 63 ∧ t.length = c ∧ ∀ x ∈ t, ROk x ∧ SmallR x) (by unfold rngS; simp) ⟨.un, .un, .un, .un, a, i, xs, [], rfl, rfl, hx, rfl, fun x h => (by cases h)⟩ ?_ ?_
    · rintro pre kk post c Δ' st' has hc ⟨v3, v4, v5, v6, a, i, xs, t, rfl, rfl, hx, ht1, ht2⟩
      have hcl : c ≤ 7 := by
        rw [count_fold] at hc
        have := congrArg List.length has
        rw [List.length_range, List.length_append] at this
        omega
      walk_at "w"
      refine next_at1 (by decide) (by decide) hx fun fi a i xs fi0 fi1 hx => ?_
      walk_at "zz"
      refine next_at1 (by decide) (by decide) hx fun bi a i xs bi0 bi1 hx => ?_
      walk_at "w"
      obtain ⟨be, hbe, hbat⟩ := num_at [0, 0, 3] bi0 (by show bi < 3; omega)
      refine ⟨_, hbat, ?_⟩
      have hbe2 : 0 ≤ be ∧ be ≤ 3 := by
        simp only [List.mem_cons, List.not_mem_nil, or_false] at hbe
        omega
      walk_at "zz"
      refine next_at1 (by decide) (by decide) hx fun ai a i xs ai0 ai1 hx => ?_
      walk_at "w"
      obtain ⟨af, haf, hafat⟩ := num_at [0, 0, 2, 5] ai0 (by show ai < 4; omega)
      refine ⟨_, hafat, ?_⟩
      have haf2 : 0 ≤ af ∧ af ≤ 5 := by
        simp only [List.mem_cons, List.not_mem_nil, or_false] at haf
        omega
      walk_at "zz"
      refine next_at1 (by decide) (by decide) hx fun ti a i xs ti0 ti1 hx => ?_
      walk_at "w"
      obtain ⟨z, hz, hat⟩ := word_at three_word ti0 (by show ti < 3; omega)
      refine ⟨_, hat, ?_⟩
      walk_at "w"
      refine ⟨⟨0, _, rfl⟩, ?_⟩
      walk_at "w"
      refine next_at1 (by decide) (by decide) hx fun le a i xs le0 le1 hx => ?_
      walk_at "w"
      refine next_at1 (by decide) (by decide) hx fun pr a i xs pr0 pr1 hx => ?_
      walk_at "zz"
      refine ⟨0, _, rfl, by rw [List.length_map, sizeLine_eq]; omega, ?_⟩
      walk_at "w"
      refine ⟨_, _, _, _, a, i, xs, t ++ [⟨z, 1 + fi, 1 + fi + le, 1 + pr, be, af⟩], rfl, by rw [List.map_append]; rfl, hx, by rw [List.length_append, ht1]; rfl, fun x hx => ?_⟩
      rcases List.mem_append.mp hx with hx | hx
      · exact ht2 x hx
      · rw [List.mem_singleton.mp hx]
        refine ⟨⟨hz, ?_, ?_, ?_, ?_, ?_, ?_, ?_, ?_, ?_⟩, ?_, ?_, ?_⟩ <;> dsimp only <;> omega
    · rintro Δ' st' ⟨v3, v4, v5, v6, a, i, xs, t, rfl, rfl, hx, ht1, ht2⟩
      rw [count_fold, List.length_range] at ht1
      walk_at "w"
      refine ⟨.dat (.lst (t.map rulT)), (p, obH q a i) :: (q, obX xs) :: st0, .pub (j := 0) rfl (.lst (allD_of _ _)) (fun z => hd z) (.cons _ (List.Sublist.refl _)), ?_⟩
      exact k t a i xs (by omega) (fun x hx => (ht2 x hx).1) (fun x hx => (ht2 x hx).2) hx
theorem ok_law_drawn (S : En K mg) : FnOk P w K mg base (L2.CX P w) 3 S.f_law_drawn S.d_law_drawn ["_law_h", "_law_many"] (lowF K ctLDrawnL) := by
  refine fn_low _ S.F_law_drawn sc_law_drawn (fun ss st ok ex h => ?_) ?_ (fun cdv A outer s H E hr tk po => (bcons (sset 2 sc_law_drawn.nd (dct call_tuple_of lc_tup S.n_tuple PyProof.Rows.boot_tuple (acons (dlc [("_law_k", 3)] sc_law_drawn.nd (iR S.n_range (acons (dcall (dds := []) (ok_law_next S) (hr.mono (by decide)) S.g_law_next S.F_law_next.kp S.b_law_next .nil (fun _ => .nil) tk (acons (dv 0) (acons di anil))) anil)) (blkOk_by (N := ["_law_h", "_law_many", "_law_seen", "_law_k"]) (sc := defScope s_law_drawn) (by decide +kernel)) (fun _ _ _ _ _ => (gwname 3 sc_law_drawn.nd)) (fun _ _ _ _ _ => tsnil) (fun _ _ _ _ _ => (dtup (acons (dix ix_list lr_ixL (dlst (acons ds (acons ds anil))) (dcall (dds := []) (ok_law_next S) (hr.mono (by decide)) S.g_law_next S.F_law_next.kp S.b_law_next .nil (fun _ => .nil) takes0 (acons (dv 0) (acons di anil)))) (acons (dop op_add lr_add di (dcall (dds := []) (ok_law_next S) (hr.mono (by decide)) S.g_law_next S.F_law_next.kp S.b_law_next .nil (fun _ => .nil) takes0 (acons (dv 0) (acons di anil)))) anil))))) anil)))
  (bone (sret (dtup (acons (dcall (dds := []) (ok_law_sendings S) (hr.mono (by decide)) S.g_law_sendings S.F_law_sendings.kp S.b_law_sendings .nil (fun _ => .nil) tk (acons (dv 0) (acons (dv 1) anil))) (acons (dcall (dds := []) (ok_law_rules S) (hr.mono (by decide)) S.g_law_rules S.F_law_rules.kp S.b_law_rules .nil (fun _ => .nil) tk (acons (dv 0) (acons di anil))) (acons (dv 2) anil))))))))
  · rw [ctLDrawnL_eq] at h; obtain ⟨_, _, _, _, _, _, _, rfl, _⟩ := h; rfl
  · intro ss st ok ex h
    rw [ctLDrawnL_eq] at h
    obtain ⟨p, q, a, i, xs, st0, m, rfl, rfl, npq, np, nq, hx, m0, m1, k⟩ := h
    walk_at "w"
    refine next_at (by decide) (by decide) hx fun cnt a i xs c0 c1 hx => ?_
    walk_at "w"
    refine ⟨by omega, by omega, ?_⟩
    walk_at "w"
    refine lc_state (List.range cnt.toNat) (fun i => .int (0 + (i : Int))) (fun c ds st' => ∃ a i xs, ∃ t : List Ep, st' = (p, obH q a i) :: (q, obX xs) :: st0 ∧ xs.length ≤ 63 ∧ ds = t.map epD ∧ t.length = c ∧ ∀ e ∈ t, isWord e.1 = true) (by unfold rngS; simp) ⟨a, i, xs, [], rfl, hx, rfl, rfl, fun x h => (by cases h)⟩ ?_ ?_
    · rintro c kk D ds st' hi hD ⟨a, i, xs, t, rfl, hx, rfl, ht, htw⟩
      have hcl : c < 2 := by
        have := (List.getElem?_eq_some_iff.mp hi).1
        rw [List.length_range] at this
        omega
      walk_at "ss"
      walk_at "yy"
      refine next_at1 (by decide) (by decide) hx fun ti a i xs ti0 ti1 hx => ?_
      walk_at "w"
      obtain ⟨z, hz, hat⟩ := word_at two_word ti0 (by show ti < 2; omega)
      refine ⟨_, hat, ?_⟩
      walk_at "w"
      refine next_at1 (by decide) (by decide) hx fun ep a i xs ep0 ep1 hx => ?_
      walk_at "zz"
      refine lcr_yes (by rw [List.length_map, sizeLine_eq]; omega) ⟨a, i, xs, t ++ [(z, 1 + ep)], rfl, hx, by rw [List.map_append]; rfl, by rw [List.length_append, ht]; rfl, fun e he => ?_⟩
      rcases List.mem_append.mp he with he | he
      · exact htw e he
      · rw [List.mem_singleton.mp he]
        exact hz
    · rintro ds st' ⟨a, i, xs, t, rfl, hx, rfl, ht, htw⟩
      rw [List.length_range] at ht
      walk_at "w"
      rw [ctLSendsL_eq]
      refine ⟨p, q, a, i, xs, st0, m, rfl, rfl, hx, m0, m1, fun l a i xs hl hl7 hlm hx => ?_⟩
      walk_at "w"
      rw [ctLRulesB_eq]
      refine ⟨p, q, a, i, xs, st0, 4, rfl, rfl, hx, by decide, by decide, fun r a i xs hr1 hr2 hr3 hx => ?_⟩
      walk_at "zz"
      walk_at "f"
      exact k ⟨r, t⟩ l a i xs ⟨Nat.le_trans hr1 (by decide), hr2, by show t.length ≤ 63; omega, htw⟩ hr1 hr3 (by show t.length ≤ 1; omega) hl hl7 hlm hx
theorem ok_law_listing (S : En K mg) : FnOk P w K mg base (L2.CX P w) 5 S.f_law_listing S.d_law_listing ["_law_sendings_here"] (lowF K (ctLListing ⟨S.C_Book, S.C_Rule, S.C_Listing, S.C_Sending⟩)) := by
  refine fn_low _ S.F_law_listing sc_law_listing (fun ss st ok ex h => ?_) ?_ (fun cdv A outer s H E hr tk po => (bcons (sset 1 sc_law_listing.nd ddnew)
  (bcons (sforK po tk (dv 0) (gname 2 sc_law_listing.nd)
   (fun V tk => (bcons (sasgG (ddget (hu1 hr) (dv 0) (dv 2)) (gtup 6 (gscons (gname 3 sc_law_listing.nd) (gscons (gname 4 sc_law_listing.nd) (gscons (gname 5 sc_law_listing.nd) (gscons (gname 6 sc_law_listing.nd) (gscons (gname 7 sc_law_listing.nd) (gscons (gname 8 sc_law_listing.nd) gsnil))))))))
  (bone (sdput (hu1 hr) (dmake (dds := []) S.mk_Sending (ok_Sending_init S) (hr.mono (by decide)) S.g_Sending S.b7_Sending_init S.v7_Sending_init (fun _ => .nil) tk (acons (dv 3) (acons (dv 4) (acons (dv 5) (acons (dv 6) (acons (dv 7) (acons (dv 8) anil))))))) (dv 1) (dv 2))))))
  (bone (sret (dmake (dds := []) S.mk_Listing (ok_Listing_init S) (hr.mono (by decide)) S.g_Listing S.b_Listing_init .nil (fun _ => .nil) tk (acons (dpub (dv 1)) anil)))))))
  · rw [ctLListing_eq] at h; obtain ⟨_, rfl, _⟩ := h; rfl
  · intro ss st ok ex h
    rw [ctLListing_eq] at h
    obtain ⟨l, rfl, hl, k⟩ := h
    walk_at "zz"
    intro p hp
    walk_at "w"
    refine loop_fold l (fun x => .str x.1) (fun s x => s ++ [((Sum.inr x.1 : Key), Sv.dat (x.2.d S.C_Sending))]) [] (fun s Δ' st' => ∃ v2 v3 v4 v5 v6 v7 v8, Δ' = [.dat (dicD sndT l), .own p, v2, v3, v4, v5, v6, v7, v8] ∧ st' = (p, .dic s) :: st) (by unfold keysD; rw [List.map_map]; rfl) ⟨.un, .un, .un, .un, .un, .un, .un, rfl, rfl⟩ ?_ ?_
    · rintro pre x post s Δ' st' has hs ⟨v2, v3, v4, v5, v6, v7, v8, rfl, rfl⟩
      rw [fold_snoc, List.nil_append] at hs
      have hx : x ∈ l := by rw [has]; simp
      have hok := (hl.ok x hx).2
      walk_at "w"
      refine ⟨.inr x.1, .dat (sndT x.2), rfl, by rw [getD_dic sndT l x.1, hl.get hx]; rfl, ?_⟩
      walk_at "w"
      refine ⟨rfl, ?_⟩
      walk_at "w"
      intro q hq
      have hno := sok_none hok
      refine ⟨q, _, _, _, _, _, _, _, rfl, rfl, word_len hok.ch, word_len hok.sh, trivial, trivial, trivial, trivial, fun z hz => (by have := hno.symm.trans hz; cases this), fun _ => ?_⟩
      refine ⟨rfl, _, _, _, rfl, .cons (.cons (.cons (.cons (.cons (.cons .nil))))), ?_⟩
      walk_at "w"
      have hsl : s.length ≤ 10 := by
        have := hl.len
        rw [has, List.length_append] at this
        rw [hs, List.length_map]
        omega
      refine ⟨0, _, .inr x.1, rfl, rfl, Nat.lt_of_le_of_lt hsl (by rw [sizeLine_eq]; decide), ?_⟩
      walk_at "w"
      have hnew : (Sum.inr x.1 : Key) ∉ s.map (·.1) := by
        have nd := hl.nodup
        rw [has, List.map_append] at nd
        rw [hs, List.map_map]
        intro z
        obtain ⟨y, hy, e1⟩ := List.mem_map.mp z
        have e2 : y.1 = x.1 := Sum.inr.inj e1
        exact (List.nodup_append.mp nd).2.2 y.1 (List.mem_map.mpr ⟨y, hy, rfl⟩) x.1 List.mem_cons_self e2
      rw [putD_new hnew]
      exact ⟨_, _, _, _, _, _, _, rfl, rfl⟩
    · rintro Δ' st' ⟨v2, v3, v4, v5, v6, v7, v8, rfl, rfl⟩
      rw [fold_snoc, List.nil_append]
      walk_at "w"
      refine ⟨.dat (dicD (Snd.d S.C_Sending) l), st, .pub (j := 0) rfl (.dic ?_) hp (.cons _ (List.Sublist.refl _)), ?_⟩
      · have := allK_map (l.map fun x => ((Sum.inr x.1 : Key), x.2.d S.C_Sending))
        rw [List.map_map] at this
        exact this
      walk_at "w"
      intro q hq
      rw [ctListing_eq]
      refine ⟨q, _, l, rfl, rfl, hl.len, hl.nd, fun x hx => (hl.ok x hx).1, rfl, _, _, _, rfl, .cons .nil, ?_⟩
      exact ⟨_, _, .keep (List.Sublist.refl _), k⟩
theorem ok_law_book (S : En K mg) : FnOk P w K mg base (L2.CX P w) 5 S.f_law_book S.d_law_book ["_law_rules_here", "_law_seen"] (lowF K (ctLBook ⟨S.C_Book, S.C_Rule, S.C_Listing, S.C_Sending⟩)) := by
  refine fn_low _ S.F_law_book sc_law_book (fun ss st ok ex h => ?_) ?_ (fun cdv A outer s H E hr tk po => (bcons (ssetLc 2 [("_law_title", 3), ("_law_first", 4), ("_law_last", 5), ("_law_rank", 6), ("_law_before", 7), ("_law_after", 8)] sc_law_book.nd (iL (dv 0)) (blkOk_by (N := ["_law_rules_here", "_law_seen", "_law_some", "_law_title", "_law_first", "_law_last", "_law_rank", "_law_before", "_law_after"]) (sc := defScope s_law_book) (by decide +kernel)) (fun _ _ _ _ _ => (gwtup 6 (gswcons (gwname 3 sc_law_book.nd) (gswcons (gwname 4 sc_law_book.nd) (gswcons (gwname 5 sc_law_book.nd) (gswcons (gwname 6 sc_law_book.nd) (gswcons (gwname 7 sc_law_book.nd) (gswcons (gwname 8 sc_law_book.nd) gswnil)))))))) (fun _ _ _ _ _ => tsnil) (fun _ _ _ _ _ => (dmake (dds := []) S.mk_Rule (ok_Rule_init S) (hr.mono (by decide)) S.g_Rule S.b7_Rule_init S.v7_Rule_init (fun _ => .nil) takes0 (acons (dv 3) (acons (dv 4) (acons (dv 5) (acons (dv 6) (acons (dv 7) (acons (dv 8) anil)))))))))
  (bone (sret (dmake (dds := []) S.mk_Book (ok_Book_init S) (hr.mono (by decide)) S.g_Book S.b3_Book_init S.v3_Book_init (fun _ => .nil) tk (acons (dct call_tuple_of lc_tup S.n_tuple PyProof.Rows.boot_tuple (acons (dv 2) anil)) (acons (dv 1) anil)))))))
  · rw [ctLBook_eq] at h; obtain ⟨_, rfl, _⟩ := h; rfl
  · intro ss st ok ex h
    rw [ctLBook_eq] at h
    obtain ⟨b, rfl, hb, k⟩ := h
    walk_at "w"
    refine lc_pure b.rules rulT (fun r => some (r.d S.C_Rule)) (by rw [List.map_map]; rfl) ?_ ?_
    · intro i r D acc hx hD J
      have hok := hb.ok r (List.mem_of_getElem? hx)
      walk_at "w"
      refine ⟨rfl, ?_⟩
      rw [show wipeD _ _ = ([.dat (.lst (b.rules.map rulT)), .dat (.tup (b.seen.map epD)), .un, .un, .un, .un, .un, .un, .un] : List Sv) from rfl]
      walk_at "ss"
      intro q hq
      have hno := rok_none hok
      refine ⟨q, _, _, _, _, _, _, _, rfl, rfl, word_len hok.sh, trivial, trivial, trivial, trivial, trivial, fun z hz => (by have := hno.symm.trans hz; cases this), fun _ => ?_⟩
      refine ⟨rfl, _, _, _, rfl, .cons (.cons (.cons (.cons (.cons (.cons .nil))))), ?_⟩
      exact lc_yes (Nat.le_trans hb.len (by decide)) hx J rfl
    rw [fm_some]
    walk_at "w"
    intro q hq
    rw [ctBook_eq]
    refine ⟨q, _, b.rules, b.seen, rfl, rfl, hb.len, rfl, _, _, _, rfl, .cons (.cons .nil), ?_⟩
    exact ⟨_, _, .keep (List.Sublist.refl _), k⟩
theorem ok_law_sizes (S : En K mg) : FnOk P w K mg base (L2.CX P w) 11 S.f_law_sizes S.d_law_sizes ["_law_h", "_law_short", "_law_wide", "_law_receivers", "_law_plan", "_law_factor"] (lowF K (ctSizes ⟨S.C_Book, S.C_Rule, S.C_Listing, S.C_Sending⟩)) := by
  refine fn_low _ S.F_law_sizes sc_law_sizes (fun ss st ok ex h => ?_) ?_ (fun cdv A outer s H E hr tk po => (bcons (sasgG (dtup (acons (dv 1) (acons (dv 2) (acons (dop op_add lr_add di (dcall (dds := []) (ok_law_next S) (hr.mono (by decide)) S.g_law_next S.F_law_next.kp S.b_law_next .nil (fun _ => .nil) tk (acons (dv 0) (acons di anil)))) anil)))) (gtup 3 (gscons (gtup 2 (gscons (gname 6 sc_law_sizes.nd) (gscons (gname 7 sc_law_sizes.nd) gsnil))) (gscons (gtup 2 (gscons (gname 8 sc_law_sizes.nd) (gscons (gname 9 sc_law_sizes.nd) gsnil))) (gscons (gname 10 sc_law_sizes.nd) gsnil)))))
  (bcons (sif (tcmp (op_neD (hu64 hr)) lr_neP (dcall (dds := []) (ok_on_disk S) (hr.mono (by decide)) S.g_on_disk S.F_on_disk.kp S.b_on_disk .nil (fun _ => .nil) tk (acons (dv 8) (acons (dv 9) (acons (dv 3) (acons (dop op_mul lr_mul (dv 10) (dv 5)) (acons (dtup anil) anil)))))) (dcall (dds := []) (ok_on_disk S) (hr.mono (by decide)) S.g_on_disk S.F_on_disk.kp S.b_on_disk .nil (fun _ => .nil) tk (acons (dv 6) (acons (dv 7) (acons (dv 3) (acons (dv 10) (acons (dtup anil) anil)))))) (nomark _))
   (bone (sret db)) bnil)
  (bcons (sset 11 sc_law_sizes.nd (dcall (dds := []) (ok_least_disk S) (hr.mono (by decide)) S.g_least_disk S.F_least_disk.kp S.b_least_disk .nil (fun _ => .nil) tk (acons (dv 6) (acons (dv 7) (acons (dv 3) (acons (dtup anil) anil))))))
  (bcons (sif (tcmp op_ne lr_neS (dcall (dds := []) (ok_least_disk S) (hr.mono (by decide)) S.g_least_disk S.F_least_disk.kp S.b_least_disk .nil (fun _ => .nil) tk (acons (dv 8) (acons (dv 9) (acons (dv 3) (acons (dtup anil) anil))))) (difx (tcmp (op_neI (Nat.lt_of_succ_lt (hu1 hr))) lr_eqI (dv 4) ddnew (nomark _)) (dop op_mul lr_mul (dv 11) (dv 5)) di) (nomark _))
   (bone (sret db)) bnil)
  (bcons (sasgG (dcall (dds := []) (ok_busiest S) (hr.mono (by decide)) S.g_busiest S.F_busiest.kp S.b_busiest .nil (fun _ => .nil) tk (acons (dv 6) (acons (dv 7) (acons (dct (call_tupleK rfl) lc_tupK S.n_tuple PyProof.Rows.boot_tuple (acons (dv 4) anil)) anil)))) (gtup 2 (gscons (gname 12 sc_law_sizes.nd) (gscons (gname 13 sc_law_sizes.nd) gsnil))))
  (bone (sret (dcmp (op_eqD (hu64 hr)) lr_eqP (dcall (dds := []) (ok_busiest S) (hr.mono (by decide)) S.g_busiest S.F_busiest.kp S.b_busiest .nil (fun _ => .nil) tk (acons (dv 8) (acons (dv 9) (acons (dct (call_tupleK rfl) lc_tupK S.n_tuple PyProof.Rows.boot_tuple (acons (dv 4) anil)) anil)))) (dtup (acons (dop op_mul lr_mul (dv 12) (dv 5)) (acons (dv 13) anil))) (nomark _))))))))))
  · rw [ctSizes_eq] at h; obtain ⟨_, _, _, _, _, _, _, _, _, _, rfl, _⟩ := h; rfl
  · intro ss st ok ex h
    rw [ctSizes_eq] at h
    obtain ⟨p, q, a, i, xs, st0, b, l, k0, f, rfl, rfl, hx, m, hk1, hk2, k⟩ := h
    obtain ⟨l', hl'⟩ : ∃ l', l' = mapS (Snd.scale f) l := ⟨_, rfl⟩
    obtain ⟨b', hb'⟩ : ∃ b', b' = b.scale f := ⟨_, rfl⟩
    have sm := m.sim
    have esz := m.sizes k0
    have hb := m.bk
    have hbo := m.bk'
    have hl := m.ok
    have hlo := m.ok'
    have hf2 := m.f2
    have hf12 := m.f12
    have hsz := sizes_ok hb hl k0
    obtain ⟨z, hz1, hz2⟩ := m.least k0
    rw [← hl', ← hb'] at sm esz
    rw [← hl'] at hlo
    rw [← hb'] at hbo
    rw [← hl', ← hb']
    walk_at "w"
    refine next_at (by decide) (by decide) hx fun kk a i xs kk0 kk1 hx => ?_
    walk_at "w"
    refine ⟨by show 3 ≤ sizeLine; rw [sizeLine_eq]; decide, ?_⟩
    walk_at "w"
    refine ⟨rfl, ?_⟩
    walk_at "w"
    refine ⟨rfl, ?_⟩
    walk_at "w"
    refine ⟨rfl, ?_⟩
    simp only [List.set_cons_succ, List.set_cons_zero, List.cons_append, List.nil_append]
    walk_at "w"
    refine ⟨by unfold CMul; omega, ?_⟩
    have hm1 : 1 ≤ (1 + kk) * f := by
      have : 1 * 2 ≤ (1 + kk) * f := Int.mul_le_mul (by omega) hf2 (by decide) (by omega)
      omega
    have hm2 : (1 + kk) * f ≤ 1000000 := by
      have : (1 + kk) * f ≤ 60 * 12 := Int.mul_le_mul (by omega) hf12 (by omega) (by decide)
      omega
    walk_at "w"
    refine ⟨Nat.zero_le _, ?_⟩
    walk_at "w"
    refine bl_at (k0, (1 + kk) * f, ([] : List Str)) rfl hbo hlo ⟨⟨hk1, hk2⟩, ⟨hm1, hm2⟩, fun n hn => by cases hn⟩ ?_
    walk_at "w"
    refine ⟨Nat.zero_le _, ?_⟩
    walk_at "w"
    refine bl_at (k0, 1 + kk, ([] : List Str)) rfl hb hl ⟨⟨hk1, hk2⟩, ⟨by show 1 ≤ 1 + kk; omega, by show 1 + kk ≤ 1000000; omega⟩, fun n hn => by cases hn⟩ ?_
    dsimp only
    rw [esz, scz_disk (by omega)]
    walk_at "w"
    refine ⟨_, _, dk_of _, dk_of _, dk_shaped (disk_words hsz _ _), dk_shaped (disk_words hsz _ _), ?_⟩
    rw [dk_self]
    refine ⟨(fun z => absurd z (by decide)), fun _ => ?_⟩
    walk_at "w"
    refine ⟨Nat.zero_le _, ?_⟩
    walk_at "w"
    refine bl_at (k0, ([] : List Str)) rfl hb hl ⟨⟨hk1, hk2⟩, fun n hn => by cases hn⟩ ?_
    dsimp only
    rw [hz1]
    walk_at "w"
    simp only [List.set_cons_succ, List.set_cons_zero, List.cons_append, List.nil_append]
    refine ⟨Nat.zero_le _, ?_⟩
    walk_at "w"
    refine bl_at (k0, ([] : List Str)) rfl hbo hlo ⟨⟨hk1, hk2⟩, fun n hn => by cases hn⟩ ?_
    dsimp only
    rw [esz, hz2]
    walk_at "w"
    intro r hr
    walk_at "w"
    refine ⟨0, _, rfl, kiI (ownPlan b l k0), [], by unfold kiI svI; rw [List.map_map, List.map_map]; rfl, rfl, ?_⟩
    have hE : eqDI (kiI (ownPlan b l k0)) [] = decide (ownPlan b l k0 = []) := by
      cases ownPlan b l k0 with
      | nil => rfl
      | cons x xs => rw [decide_eq_false (by simp)]; rfl
    rw [hE]
    obtain ⟨u, hu⟩ : ∃ u, u = (ownPlan b l k0).map (·.1) := ⟨_, rfl⟩
    have huI : In l u := by rw [hu]; exact own_in hl k0
    have huw : ∀ n ∈ u, n ∈ wn b l := by rw [hu]; exact own_wn hl
    have huI' : In l' u := ⟨huI.asc, fun n hn => by
      obtain ⟨w, hw, e⟩ := List.mem_map.mp (show n ∈ wn b' l' by rw [sm.wn]; exact huw n hn)
      rw [← e]
      exact List.mem_map.mpr ⟨(w.n, w.s), (wished_mem.mp hw).1, rfl⟩⟩
    have huw' : ∀ n ∈ u, n ∈ wn b' l' := fun n hn => by rw [sm.wn]; exact huw n hn
    have hbz := sm.busy huI huw
    have hzero : (busyOf (winsOf b l u)).2 = [] → (busyOf (winsOf b l u)).1 = 0 := by
      have kz : ∀ (L : List Str) (acc : Int × List Str), (acc.2 = [] → acc.1 = 0) → ((L.foldl (busyStep (winsOf b l u) ((winsOf b l u).map (·.1))) acc).2 = [] → (L.foldl (busyStep (winsOf b l u) ((winsOf b l u).map (·.1))) acc).1 = 0) := by
        intro L
        induction L with
        | nil => intro acc h; exact h
        | cons n L ih =>
          intro acc h
          rw [List.foldl_cons]
          refine ih _ ?_
          unfold busyStep
          split
          · rename_i c
            intro y
            dsimp only at y
            rw [y] at c
            exact absurd c (Nat.not_lt_zero _)
          · exact h
      exact kz _ _ fun _ => rfl
    obtain ⟨B, hB⟩ : ∃ B, B = busyOf (winsOf b l u) := ⟨_, rfl⟩
    have hBw : ∀ n ∈ B.2, isWord n = true := fun n hn => by
      rw [hB] at hn
      have := busy_sub n hn
      rw [wins_keys, hu] at this
      exact own_word hl this
    rw [← hB] at hbz hzero
    have e3 : mnP (busyPhi (· * f) B) = mnP (B.1 * f, B.2) := by
      unfold mnP busyPhi
      dsimp only
      by_cases c : B.2 = []
      · rw [if_pos c, hzero c, Int.zero_mul]
      · rw [if_neg c]
    have htup : Dt.tup ((((ownPlan b l k0).map fun x => ((Sum.inr x.1 : Key), Dt.int x.2)).map fun kv => (kv.1, Sv.dat kv.2)).map fun kv => match kv.1 with | .inl i => .int i | .inr z => .str z) = nsD u := by
      rw [hu]
      unfold nsD
      rw [List.map_map, List.map_map, List.map_map]
      rfl
    apply And.intro
    case' left =>
      intro e0
      have e1 : ¬ ownPlan b l k0 = [] := fun y => by rw [decide_eq_true y] at e0; exact absurd e0 (by decide)
      rw [if_neg e1]
      walk_at "w"
      refine ⟨by unfold CMul; omega, ?_⟩
      walk_at "w"
    case' right =>
      intro e0
      have e1 : ownPlan b l k0 = [] := by
        by_cases c : ownPlan b l k0 = []
        · exact c
        · rw [decide_eq_false c] at e0; exact absurd e0 (by decide)
      rw [if_pos e1]
      walk_at "w"
    all_goals
      rw [show ∀ x : Int, decide (x = x) = true from fun x => decide_eq_true rfl]
      refine ⟨(fun z => absurd z (by decide)), fun _ => ?_⟩
      walk_at "w"
      rw [ctBusiest_eq]
      refine ⟨b, l, u, congrArg (fun d => [Sv.dat (b.d ⟨S.C_Book, S.C_Rule, S.C_Listing, S.C_Sending⟩), Sv.dat (lstD ⟨S.C_Book, S.C_Rule, S.C_Listing, S.C_Sending⟩ l), Sv.dat d]) htup, hb, hl, huI, huw, ?_⟩
      rw [← hB]
      walk_at "w"
      refine ⟨rfl, ?_⟩
      simp only [List.set_cons_succ, List.set_cons_zero]
      walk_at "w"
      rw [ctBusiest_eq]
      refine ⟨b', l', u, congrArg (fun d => [Sv.dat (b'.d ⟨S.C_Book, S.C_Rule, S.C_Listing, S.C_Sending⟩), Sv.dat (lstD ⟨S.C_Book, S.C_Rule, S.C_Listing, S.C_Sending⟩ l'), Sv.dat d]) htup, hbo, hlo, huI', huw', ?_⟩
      rw [hbz]
      walk_at "w"
      refine ⟨by unfold CMul; omega, ?_⟩
      walk_at "w"
      refine ⟨by show 2 ≤ sizeLine; rw [sizeLine_eq]; decide, ?_⟩
      walk_at "w"
      refine ⟨mnP (busyPhi (· * f) B), mnP (_, B.2), mn_of _, mn_of (_, B.2), mn_shaped hBw, mn_shaped hBw, ?_⟩
      rw [e3, mn_self]
      walk_at "w"
      exact ⟨_, _, .keep (.cons _ (List.Sublist.refl _)), k _ _ _ hx⟩
theorem ok_law (S : En K mg) : FnOk P w K mg base (L2.CX P w) 12 S.f_law S.d_law ["_law_script"] (lowF K ctLaw) := by
  refine fn_low _ S.F_law sc_law (fun ss st ok ex h => ?_) ?_ (fun cdv A outer s H E hr tk po => (bcons (sset 1 sc_law.nd (dcall (dds := []) (ok_law_mix S) (hr.mono (by decide)) S.g_law_mix S.F_law_mix.kp S.b_law_mix .nil (fun _ => .nil) tk (acons (dv 0) (acons di anil))))
  (bcons (sfor po (iR S.n_range (acons di anil)) (gname 2 sc_law.nd)
   (bcons (sparC3 3 4 5 sc_law.nd (acons (dcall (dds := []) (ok_law_drawn S) (hr.mono (by decide)) S.g_law_drawn S.F_law_drawn.kp S.b_law_drawn .nil (fun _ => .nil) tk (acons (dv 1) (acons di anil))) (acons (dop op_add lr_add di (dcall (dds := []) (ok_law_next S) (hr.mono (by decide)) S.g_law_next S.F_law_next.kp S.b_law_next .nil (fun _ => .nil) tk (acons (dv 1) (acons di anil)))) (acons (dop op_add lr_add di (dcall (dds := []) (ok_law_next S) (hr.mono (by decide)) S.g_law_next S.F_law_next.kp S.b_law_next .nil (fun _ => .nil) tk (acons (dv 1) (acons di anil)))) anil))))
  (bcons (sset 6 sc_law.nd ddnew)
  (bcons (sforK po tk (dix ix_tup lr_ixT (dv 3) di) (gname 7 sc_law.nd)
   (fun V tk => (bcons (sasgG (ddget (hu1 hr) (dix ix_tup lr_ixT (dv 3) di) (dv 7)) (gtup 6 (gscons (gname 8 sc_law.nd) (gscons (gname 9 sc_law.nd) (gscons (gname 10 sc_law.nd) (gscons (gname 11 sc_law.nd) (gscons (gname 12 sc_law.nd) (gscons (gname 13 sc_law.nd) gsnil))))))))
  (bone (sdput (hu1 hr) (dtup (acons (dv 8) (acons (dv 9) (acons (dv 10) (acons (dop op_mul lr_mul (dv 11) (dv 5)) (acons (dop op_mul lr_mul (dv 12) (dv 5)) (acons (dop op_mul lr_mul (dv 13) (dv 5)) anil))))))) (dv 6) (dv 7))))))
  (bcons (ssetLc 14 [("_law_rule", 15)] sc_law.nd (iL (dix ix_tup lr_ixT (dv 3) di)) (blkOk_by (N := ["_law_script", "_law_h", "_law_turn", "_law_drawn_here", "_law_receivers", "_law_factor", "_law_sendings_here", "_law_name", "_law_channel", "_law_title", "_law_episode", "_law_begin", "_law_end", "_law_late", "_law_rules_here", "_law_rule", "_law_one", "_law_other", "_law_book_here", "_law_wide", "_law_plan", "_law_told", "_law_due", "_law_turned", "_law_again"]) (sc := defScope s_law) (by decide +kernel)) (fun _ _ _ _ _ => (gwname 15 sc_law.nd)) (fun _ _ _ _ _ => tsnil) (fun _ _ _ _ _ => (dop op_catA lr_catU (dslT (dv 15) onone (osome di)) (dtup (acons (dop op_mul lr_mul (dix ix_tup lr_ixT (dv 15) di) (dv 5)) (acons (dop op_mul lr_mul (dix ix_tup lr_ixT (dv 15) di) (dv 5)) anil))))))
  (bcons (spub 6 (spar 16 17 sc_law.nd (acons (dcall (dds := []) (ok_law_listing S) (hr.mono (by decide)) S.g_law_listing S.F_law_listing.kp S.b_law_listing .nil (fun _ => .nil) tk (acons (dix ix_tup lr_ixT (dv 3) di) anil)) (acons (dcall (dds := []) (ok_law_listing S) (hr.mono (by decide)) S.g_law_listing S.F_law_listing.kp S.b_law_listing .nil (fun _ => .nil) tk (acons (dv 6) anil)) anil))))
  (bcons (spar 18 19 sc_law.nd (acons (dcall (dds := []) (ok_law_book S) (hr.mono (by decide)) S.g_law_book S.F_law_book.kp S.b_law_book .nil (fun _ => .nil) tk (acons (dix ix_tup lr_ixT (dv 3) di) (acons (dix ix_tup lr_ixT (dv 3) di) anil))) (acons (dcall (dds := []) (ok_law_book S) (hr.mono (by decide)) S.g_law_book S.F_law_book.kp S.b_law_book .nil (fun _ => .nil) tk (acons (dv 14) (acons (dix ix_tup lr_ixT (dv 3) di) anil))) anil)))
  (bcons (sset 20 sc_law.nd (dcall (dds := []) (ok_own_plan S) (hr.mono (by decide)) S.g_own_plan S.F_own_plan.kp S.b_own_plan .nil (fun _ => .nil) tk (acons (dv 18) (acons (dv 16) (acons (dv 4) anil)))))
  (bcons (sif (tnot (tval (dcall (dds := []) (ok_law_alike S 6) (hr.mono (by decide)) S.g_law_alike S.F_law_alike.kp S.b_law_alike .nil (fun _ => .nil) tk (acons (dcall (dds := []) (ok_own_plan S) (hr.mono (by decide)) S.g_own_plan S.F_own_plan.kp S.b_own_plan .nil (fun _ => .nil) tk (acons (dv 19) (acons (dv 17) (acons (dv 4) anil)))) (acons (dv 20) anil)))))
   (bone (sret db)) bnil)
  (bcons (sfor po (iL (dcall (dds := []) (ok_lost S) (hr.mono (by decide)) S.g_lost S.F_lost.kp S.b_lost .nil (fun _ => .nil) tk (acons (dv 18) (acons (dv 16) (acons (dv 4) anil))))) (gname 10 sc_law.nd)
   (bone (sif (tcmp (op_neDW (hu65 hr)) lr_neDW (dpub (dcall (dds := []) (ok_in_the_way S) (hr.mono (by decide)) S.g_in_the_way S.F_in_the_way.kp S.b_in_the_way .nil (fun _ => .nil) tk (acons (dv 19) (acons (dv 17) (acons (dv 4) (acons (dv 10) anil)))))) (dpub (dcall (dds := []) (ok_in_the_way S) (hr.mono (by decide)) S.g_in_the_way S.F_in_the_way.kp S.b_in_the_way .nil (fun _ => .nil) tk (acons (dv 18) (acons (dv 16) (acons (dv 4) (acons (dv 10) anil)))))) (nomark _))
   (bone (sret db)) bnil)))
  (bcons (sset 21 sc_law.nd (dlst (acons (dcall (dds := []) (ok_lost S) (hr.mono (by decide)) S.g_lost S.F_lost.kp S.b_lost .nil (fun _ => .nil) tk (acons (dv 19) (acons (dv 17) (acons (dv 4) anil)))) (acons (dcall (dds := []) (ok_best_choice S) (hr.mono (by decide)) S.g_best_choice S.F_best_choice.kp S.b_best_choice .nil (fun _ => .nil) tk (acons (dv 19) (acons (dv 17) (acons (dv 4) anil)))) (acons (dcall (dds := []) (ok_rounds S) (hr.mono (by decide)) S.g_rounds S.F_rounds.kp S.b_rounds .nil (fun _ => .nil) tk (acons (dv 19) (acons (dv 17) (acons (dv 4) anil)))) anil)))))
  (bcons (sset 22 sc_law.nd (dlst (acons (dcall (dds := []) (ok_lost S) (hr.mono (by decide)) S.g_lost S.F_lost.kp S.b_lost .nil (fun _ => .nil) tk (acons (dv 18) (acons (dv 16) (acons (dv 4) anil)))) (acons (dcall (dds := []) (ok_best_choice S) (hr.mono (by decide)) S.g_best_choice S.F_best_choice.kp S.b_best_choice .nil (fun _ => .nil) tk (acons (dv 18) (acons (dv 16) (acons (dv 4) anil)))) (acons (dcall (dds := []) (ok_rounds S) (hr.mono (by decide)) S.g_rounds S.F_rounds.kp S.b_rounds .nil (fun _ => .nil) tk (acons (dv 18) (acons (dv 16) (acons (dv 4) anil)))) anil)))))
  (bcons (sif (tw (wor (tnot (tval (dcall (dds := []) (ok_law_alike S 6) (hr.mono (by decide)) S.g_law_alike S.F_law_alike.kp S.b_law_alike .nil (fun _ => .nil) tk (acons (dv 21) (acons (dv 22) anil))))) (wor1 (tcmp op_ne lr_neS (dcall (dds := []) (ok_fewest_own S) (hr.mono (by decide)) S.g_fewest_own S.F_fewest_own.kp S.b_fewest_own .nil (fun _ => .nil) tk (acons (dv 19) (acons (dv 17) anil))) (dcall (dds := []) (ok_fewest_own S) (hr.mono (by decide)) S.g_fewest_own S.F_fewest_own.kp S.b_fewest_own .nil (fun _ => .nil) tk (acons (dv 18) (acons (dv 16) anil))) (nomark _)))))
   (bone (sret db)) bnil)
  (bcons (sif (tcmp (op_neD (hu64 hr)) lr_neP (dcall (dds := []) (ok_surely_whole S) (hr.mono (by decide)) S.g_surely_whole S.F_surely_whole.kp S.b_surely_whole .nil (fun _ => .nil) tk (acons (dv 19) (acons (dv 17) (acons (dv 20) anil)))) (dcall (dds := []) (ok_surely_whole S) (hr.mono (by decide)) S.g_surely_whole S.F_surely_whole.kp S.b_surely_whole .nil (fun _ => .nil) tk (acons (dv 18) (acons (dv 16) (acons (dv 20) anil)))) (nomark _))
   (bone (sret db)) bnil)
  (bcons (sif (tnot (tval (dcall (dds := []) (ok_law_sizes S) (hr.mono (by decide)) S.g_law_sizes S.F_law_sizes.kp S.b_law_sizes .nil (fun _ => .nil) tk (acons (dv 1) (acons (dtup (acons (dv 18) (acons (dv 16) anil))) (acons (dtup (acons (dv 19) (acons (dv 17) anil))) (acons (dv 4) (acons (dv 20) (acons (dv 5) anil)))))))))
   (bone (sret db)) bnil)
  (bcons (spar 23 24 sc_law.nd (acons (dmake (dds := []) S.mk_Book (ok_Book_init S) (hr.mono (by decide)) S.g_Book S.b3_Book_init S.v3_Book_init (fun _ => .nil) tk (acons (drevT (dprop S.cl_Book S.p_Book_rules (ok_Book_rules S) (hr.mono (by decide)) S.b_Book_rules (dv 19))) (acons (dix ix_tup lr_ixT (dv 3) di) anil))) (acons (dmake (dds := []) S.mk_Book (ok_Book_init S) (hr.mono (by decide)) S.g_Book S.b3_Book_init S.v3_Book_init (fun _ => .nil) tk (acons (drevT (dprop S.cl_Book S.p_Book_rules (ok_Book_rules S) (hr.mono (by decide)) S.b_Book_rules (dv 18))) (acons (dix ix_tup lr_ixT (dv 3) di) anil))) anil)))
  (bone (sif (teither (tcmp op_ne lr_neS (dcall (dds := []) (ok_difference S) (hr.mono (by decide)) S.g_difference S.F_difference.kp S.b_difference .nil (fun _ => .nil) tk (acons (dv 19) (acons (dv 23) (acons (dv 17) (acons (dv 4) anil))))) (dcall (dds := []) (ok_difference S) (hr.mono (by decide)) S.g_difference S.F_difference.kp S.b_difference .nil (fun _ => .nil) tk (acons (dv 18) (acons (dv 24) (acons (dv 16) (acons (dv 4) anil))))) (nomark _)) (tcmp (op_neD (hu64 hr)) lr_neP (dcall (dds := []) (ok_difference S) (hr.mono (by decide)) S.g_difference S.F_difference.kp S.b_difference .nil (fun _ => .nil) tk (acons (dv 19) (acons (dv 23) (acons (dv 17) (acons (dv 4) anil))))) (dcall (dds := []) (ok_difference S) (hr.mono (by decide)) S.g_difference S.F_difference.kp S.b_difference .nil (fun _ => .nil) tk (acons (dv 18) (acons (dv 24) (acons (dv 16) (acons (dv 4) anil))))) (nomark _)))
   (bone (sret db)) bnil))))))))))))))))))
  (bone (sret db)))))
  · (repeat (first | (obtain ⟨rfl, _⟩ := h; rfl) | (obtain ⟨_, h⟩ := h)))
  · rintro ss st ok ex ⟨ns, rfl, hl, rfl, k⟩
    walk_at "w"
    refine ⟨ns, 73, rfl, hl, fun p q a hpq hp hq => ?_⟩
    walk_at "w"
    refine ⟨by decide, by decide, ?_⟩
    walk_at "w"
    refine loop_fold (List.range 2) (fun i => .int (0 + (i : Int))) (fun (s : Unit) _ => s) () (fun _ Δ' st' => ∃ v2 v3 v4 v5 v6 v7 v8 v9 v10 v11 v12 v13 v14 v15 v16 v17 v18 v19 v20 v21 v22 v23 v24 a i xs, Δ' = [.dat (.fls (ns.map Dt.int)), .own p, v2, v3, v4, v5, v6, v7, v8, v9, v10, v11, v12, v13, v14, v15, v16, v17, v18, v19, v20, v21, v22, v23, v24] ∧ st' = [(p, obH q a i), (q, obX xs)] ∧ xs.length ≤ 63) (by unfold rngS; simp) ⟨.un, .un, .un, .un, .un, .un, .un, .un, .un, .un, .un, .un, .un, .un, .un, .un, .un, .un, .un, .un, .un, .un, .un, a, 0, ns, rfl, rfl, hl⟩ ?_ ?_
    · rintro pre t0 post _ Δ' st' - - ⟨v2, v3, v4, v5, v6, v7, v8, v9, v10, v11, v12, v13, v14, v15, v16, v17, v18, v19, v20, v21, v22, v23, v24, a, i, xs, rfl, rfl, hx⟩
      walk_at "w"
      rw [ctLDrawnL_eq]
      refine ⟨p, q, a, i, xs, [], 6, rfl, rfl, hpq, fun z => hp z, fun z => hq z, hx, by decide, by decide, fun b l a i xs hb hbr hbS hbs hll hl7 hlm hx => ?_⟩
      walk_at "w"
      refine next_at (by decide) (by decide) hx fun kk a i xs kk0 kk1 hx => ?_
      obtain ⟨j, rfl⟩ : ∃ j : Nat, kk = (j : Int) := ⟨kk.toNat, by omega⟩
      obtain ⟨kn, hkn⟩ : ∃ kn : Nat, kn = 1 + j := ⟨_, rfl⟩
      have hkI : (1 : Int) + (j : Int) = (kn : Int) := by omega
      have hk1 : 1 ≤ kn := by omega
      have hk2 : kn ≤ 10 := by omega
      walk_at "w"
      refine next_at (by decide) (by decide) hx fun kf a i xs kf0 kf1 hx => ?_
      walk_at "w"
      rw [show (fun i j : Int => Dt.int (i + j)) 1 (j : Int) = Dt.int (kn : Int) from congrArg Dt.int hkI]
      clear hkI hkn
      obtain ⟨f, hf⟩ : ∃ f : Int, f = 2 + kf := ⟨_, rfl⟩
      have hf2 : 2 ≤ f := by omega
      have hf12 : f ≤ 12 := by omega
      rw [show (fun i j : Int => Dt.int (i + j)) 2 kf = Dt.int f from congrArg Dt.int hf.symm]
      simp only [List.set_cons_succ, List.set_cons_zero]
      walk_at "w"
      intro d hd
      have ndp : d ≠ p := fun z => hd (by rw [z]; exact List.mem_cons_self)
      walk_at "w"
      simp only [List.set_cons_succ, List.set_cons_zero]
      refine ⟨_, rfl, ?_⟩
      walk_at "w"
      refine loop_fold l (fun x => .str x.1) (fun (s : Lst) x => s ++ [(x.1, x.2.scale f)]) [] (fun s Δ' st' => ∃ v7 v8 v9 v10 v11 v12 v13, Δ' = [.dat (.fls (ns.map Dt.int)), .own p, .dat (.int (0 + (t0 : Int))), .dat (drawnD b l), .dat (.int (kn : Int)), .dat (.int f), .own d, v7, v8, v9, v10, v11, v12, v13, v14, v15, v16, v17, v18, v19, v20, v21, v22, v23, v24] ∧ st' = (d, .dic (s.map fun x => ((Sum.inr x.1 : Key), Sv.dat (sndT x.2)))) :: [(p, obH q a i), (q, obX xs)]) (by unfold keysD; rw [List.map_map]; rfl) ⟨_, _, _, _, _, _, _, rfl, rfl⟩ ?_ ?_
      · rintro pre2 x post2 s Δ' st' has2 hs2 ⟨v7, v8, v9, v10, v11, v12, v13, rfl, rfl⟩
        have hxm : x ∈ l := by rw [has2]; simp
        have hpl : pre2.length < 10 := by
          have h1 := congrArg List.length has2
          rw [List.length_append, List.length_cons] at h1
          have := hll.len
          omega
        have hsl : s = pre2.map fun x => (x.1, x.2.scale f) := by rw [hs2, fold_snoc, List.nil_append]
        have hnew : (Sum.inr x.1 : Key) ∉ (s.map fun x => ((Sum.inr x.1 : Key), Sv.dat (sndT x.2))).map (·.1) := by
          rw [hsl, List.map_map, List.map_map]
          intro z
          obtain ⟨y, hy, e1⟩ := List.mem_map.mp z
          have e2 : y.1 = x.1 := Sum.inr.inj e1
          have nd := asc_nodup (asc_names hll)
          rw [has2, List.map_append, List.map_cons] at nd
          exact (List.nodup_append.mp nd).2.2 y.1 (List.mem_map.mpr ⟨y, hy, rfl⟩) x.1 List.mem_cons_self e2
        walk_at "w"
        refine ⟨_, rfl, ?_⟩
        walk_at "w"
        refine ⟨.inr x.1, .dat (sndT x.2), rfl, by rw [getD_dic sndT l x.1, hll.get hxm]; rfl, ?_⟩
        walk_at "w"
        refine ⟨rfl, ?_⟩
        simp only [List.set_cons_succ, List.set_cons_zero]
        walk_at "w"
        refine ⟨by unfold CMul; omega, ?_⟩
        walk_at "w"
        refine ⟨by unfold CMul; omega, ?_⟩
        walk_at "w"
        refine ⟨by unfold CMul; omega, ?_⟩
        walk_at "w"
        refine ⟨by show 6 ≤ sizeLine; rw [sizeLine_eq]; decide, ?_⟩
        walk_at "w"
        refine ⟨0, _, .inr x.1, rfl, rfl, by rw [List.length_map, hsl, List.length_map, sizeLine_eq]; omega, ?_⟩
        walk_at "w"
        refine ⟨_, _, _, _, _, _, _, rfl, ?_⟩
        rw [putD_new hnew, List.map_append]
        rfl
      · rintro Δ' st' ⟨v7, v8, v9, v10, v11, v12, v13, rfl, rfl⟩
        rw [fold_snoc, List.nil_append, show (l.map fun x => (x.1, x.2.scale f)) = mapS (Snd.scale f) l from rfl]
        walk_at "w"
        refine ⟨_, rfl, ?_⟩
        walk_at "w"
        refine lc_pure b.rules rulT (fun r => some (rulT (r.scale f))) (by rw [List.map_map]; rfl) ?_ ?_
        · intro i2 r D acc hi hD J
          have hbl := hb.len
          walk_at "ss"
          refine ⟨_, rfl, ?_⟩
          walk_at "w"
          refine ⟨by unfold CMul; omega, ?_⟩
          walk_at "w"
          refine ⟨_, rfl, ?_⟩
          walk_at "w"
          refine ⟨by unfold CMul; omega, ?_⟩
          walk_at "w"
          refine ⟨by show 2 ≤ sizeLine; rw [sizeLine_eq]; decide, ?_⟩
          walk_at "w"
          refine ⟨by show 4 + 2 ≤ sizeLine; rw [sizeLine_eq]; decide, ?_⟩
          walk_at "w"
          exact lc_yes (by rw [sizeLine_eq]; omega) hi J rfl
        rw [fm_some]
        walk_at "w"
        simp only [List.set_cons_succ, List.set_cons_zero]
        refine ⟨_, .dat (dicD sndT (mapS (Snd.scale f) l)), [(p, obH q a i), (q, obX xs)], rfl, (fun z => by cases z), .pub (j := 0) rfl (.dic ?_) hd (.cons _ (List.Sublist.refl _)), ?_⟩
        · have := allK_map ((mapS (Snd.scale f) l).map fun x => ((Sum.inr x.1 : Key), sndT x.2))
          rw [List.map_map] at this
          exact this
        have hlo := scale_lok (f := f) hll (fun x hx => (hl7 x hx).1) (fun x hx => by have := (hl7 x hx).2; omega) hf2 hf12
        have hbo := scale_bok (f := f) hb hbS hf2 hf12
        have m : ScOk b l f := ⟨hb, hbo, hll, hlo, hf2, hf12, fun x hx => (hl7 x hx).1.e, fun r hr => (hbS r hr).a⟩
        have hf0 : 0 < f := by omega
        have ern := scale_rounds hf0 b hll hlo kn
        have edf := scale_diff hf0 b ⟨b.rules.reverse, b.seen⟩ hll hlo kn
        have hrev := scale_rev f b
        obtain ⟨l', hl'⟩ : ∃ l', l' = mapS (Snd.scale f) l := ⟨_, rfl⟩
        obtain ⟨b', hb'⟩ : ∃ b', b' = b.scale f := ⟨_, rfl⟩
        have sm := m.sim
        rw [← hl', ← hb'] at sm ern edf
        rw [← hl'] at hlo ⊢
        rw [← hb'] at hbo hrev
        have hrl : (b.rules.map fun r => rulT (r.scale f)) = b'.rules.map rulT := by rw [hb']; unfold Bk.scale; rw [List.map_map]; rfl
        have hsn : b'.seen = b.seen := by rw [hb']; rfl
        rw [hrl]
        walk_at "w"
        refine ⟨_, rfl, ?_⟩
        walk_at "w"
        rw [ctLListing_eq]
        refine ⟨l, rfl, hll, ?_⟩
        walk_at "w"
        rw [ctLListing_eq]
        refine ⟨l', rfl, hlo, ?_⟩
        walk_at "w"
        simp only [List.set_cons_succ, List.set_cons_zero]
        refine ⟨_, rfl, ?_⟩
        walk_at "w"
        refine ⟨_, rfl, ?_⟩
        walk_at "w"
        rw [ctLBook_eq]
        refine ⟨b, rfl, hb, ?_⟩
        walk_at "w"
        refine ⟨_, rfl, ?_⟩
        walk_at "w"
        rw [ctLBook_eq]
        refine ⟨b', by rw [hsn]; rfl, hbo, ?_⟩
        walk_at "w"
        simp only [List.set_cons_succ, List.set_cons_zero]
        have hlw : ∀ e ∈ lost b l kn, isWord e.1 = true := fun e he => wish_word hll (lost_mem he)
        refine Or.inl (bl_at kn rfl hb hll ⟨hk1, hk2⟩ ?_)
        walk_at "w"
        simp only [List.set_cons_succ, List.set_cons_zero]
        refine Or.inl (bl_at kn rfl hbo hlo ⟨hk1, hk2⟩ ?_)
        rw [sm.own]
        walk_at "w"
        refine ⟨planD (ownPlan b l kn), rfl, .plan 3 (own_nd hll kn) (Nat.le_trans (own_len hll kn) (by decide)), ?_⟩
        refine ⟨(fun z => absurd z (by decide)), fun _ => ?_⟩
        walk_at "w"
        refine Or.inl (bl_at kn rfl hb hll ⟨hk1, hk2⟩ ?_)
        walk_at "w"
        refine loop_fold (lost b l kn) epD (fun (s : Unit) _ => s) () (fun _ Δ' st' => ∃ v10, Δ' = [.dat (.fls (ns.map Dt.int)), .own p, .dat (.int (0 + (t0 : Int))), .dat (drawnD b l), .dat (.int (kn : Int)), .dat (.int f), .dat (dicD sndT l'), v7, v8, v9, v10, v11, v12, v13, .dat (.lst (b'.rules.map rulT)), v15, .dat (lstD ⟨S.C_Book, S.C_Rule, S.C_Listing, S.C_Sending⟩ l), .dat (lstD ⟨S.C_Book, S.C_Rule, S.C_Listing, S.C_Sending⟩ l'), .dat (b.d ⟨S.C_Book, S.C_Rule, S.C_Listing, S.C_Sending⟩), .dat (b'.d ⟨S.C_Book, S.C_Rule, S.C_Listing, S.C_Sending⟩), .dat (dicD .int (ownPlan b l kn)), v21, v22, v23, v24] ∧ st' = [(p, obH q a i), (q, obX xs)]) (by rw [List.map_map]; rfl) ⟨_, rfl, rfl⟩ ?_ ?_
        · rintro pre2 e post2 _ Δ' st' has2 - ⟨v10, rfl, rfl⟩
          have he : e ∈ lost b l kn := by rw [has2]; simp
          have hways : ((sendsOf b' l' e).map fun n => ((Sum.inr n : Key), wayD (wayOf b' l' kn e n))) = (sendsOf b l e).map fun n => ((Sum.inr n : Key), wayD (wayOf b l kn e n)) := by
            rw [sm.sends]
            exact List.map_congr_left fun n hn => by rw [sm.way kn e hn]
          walk_at "w"
          refine Or.inl ?_
          rw [ctWay_eq]
          refine ⟨b', l', kn, e, rfl, hbo, hlo, hk1, hk2, by rw [sm.lost]; exact he, fun q1 hq1 => ?_⟩
          walk_at "w"
          refine ⟨.dat (.dic ((sendsOf b' l' e).map fun n => ((Sum.inr n : Key), wayD (wayOf b' l' kn e n)))), [(p, obH q a i), (q, obX xs)], .pub (j := 0) rfl (.dic ?_) hq1 (.cons _ (List.Sublist.refl _)), ?_⟩
          · have := allK_map ((sendsOf b' l' e).map fun n => ((Sum.inr n : Key), wayD (wayOf b' l' kn e n)))
            rw [List.map_map] at this
            exact this
          walk_at "w"
          refine Or.inl ?_
          rw [ctWay_eq]
          refine ⟨b, l, kn, e, rfl, hb, hll, hk1, hk2, he, fun q2 hq2 => ?_⟩
          walk_at "w"
          refine ⟨.dat (.dic ((sendsOf b l e).map fun n => ((Sum.inr n : Key), wayD (wayOf b l kn e n)))), [(p, obH q a i), (q, obX xs)], .pub (j := 0) rfl (.dic ?_) hq2 (.cons _ (List.Sublist.refl _)), ?_⟩
          · have := allK_map ((sendsOf b l e).map fun n => ((Sum.inr n : Key), wayD (wayOf b l kn e n)))
            rw [List.map_map] at this
            exact this
          walk_at "w"
          refine ⟨hways, ?_, ⟨(sendsOf b' l' e).map fun n => wayP (wayOf b' l' kn e n), ways_all b' l' kn e _, fun z hz => ?_⟩, ?_⟩
          · rw [List.map_map]
            have h9 := sends_nd (b := b') hlo e
            unfold List.Nodup at h9 ⊢
            rw [List.pairwise_map]
            exact h9.imp fun {a c} h z => h (Sum.inr.inj z)
          · obtain ⟨n, hn, rfl⟩ := List.mem_map.mp hz
            exact ⟨way_shaped (way_words hlo kn e n), way_self _⟩
          walk_at "ss"
          exact ⟨_, rfl, rfl⟩
        · rintro Δ' st' ⟨v10, rfl, rfl⟩
          walk_at "w"
          refine Or.inl (bl_at kn rfl hbo hlo ⟨hk1, hk2⟩ ?_)
          rw [sm.lost]
          walk_at "w"
          rw [ctBest_eq]
          refine ⟨b', l', kn, rfl, hbo, hlo, hk1, hk2, fun t' ht' => ?_⟩
          walk_at "w"
          refine Or.inl (bl_at kn rfl hbo hlo ⟨⟨hk1, hk2⟩, by rw [hsn]; omega⟩ ?_)
          rw [ern]
          walk_at "w"
          refine ⟨by show 3 ≤ sizeLine; rw [sizeLine_eq]; decide, ?_⟩
          walk_at "w"
          simp only [List.set_cons_succ, List.set_cons_zero]
          refine Or.inl (bl_at kn rfl hb hll ⟨hk1, hk2⟩ ?_)
          walk_at "w"
          rw [ctBest_eq]
          refine ⟨b, l, kn, rfl, hb, hll, hk1, hk2, fun t ht => ?_⟩
          obtain rfl := best_one ht (sm.best ht')
          obtain ⟨t10, tw⟩ := choices_in hll (best_least ht).1
          rw [sm.worth tw]
          walk_at "w"
          refine Or.inl (bl_at kn rfl hb hll ⟨⟨hk1, hk2⟩, by omega⟩ ?_)
          walk_at "w"
          refine ⟨by show 3 ≤ sizeLine; rw [sizeLine_eq]; decide, ?_⟩
          walk_at "w"
          simp only [List.set_cons_succ, List.set_cons_zero]
          have hrn : ∀ (n : Nat) (b : Bk), (roundsF l kn n b).length ≤ n := by
            intro n
            induction n with
            | zero => intro b; exact Nat.le_refl _
            | succ n ih =>
              intro b
              unfold roundsF
              split
              · exact Nat.zero_le _
              · rw [List.length_cons]
                have := ih (b.seen2 (recorded b l kn))
                omega
          have hpx : PlX 6 (.lst [Dt.lst (List.map epD (lost b l kn)), Dt.tup [Dt.int (worthOf b l t), nsD t], Dt.lst (List.map planD (roundsOf b l kn))]) := by
            refine .lst (fun z hz => ?_) (by show 3 ≤ sizeLine; rw [sizeLine_eq]; decide)
            simp only [List.mem_cons, List.not_mem_nil, or_false] at hz
            rcases hz with rfl | rfl | rfl
            · refine (eps_pl (n := 2) _ ?_).x
              have h1 := own_lost_len (b := b) hll kn
              have h2 := wishes_len (b := b) hll
              omega
            · refine .tup (fun z hz => ?_) (by show 2 ≤ sizeLine; rw [sizeLine_eq]; decide)
              simp only [List.mem_cons, List.not_mem_nil, or_false] at hz
              rcases hz with rfl | rfl
              · exact .int _ _
              · exact (nsD_pl t (by omega)).x
            · refine .lst (fun z hz => ?_) ?_
              · obtain ⟨u, hu, rfl⟩ := List.mem_map.mp hz
                refine .plan 1 (rounds_nd hll _ _ _ u hu) ?_
                have hul : ∀ (n : Nat) (b : Bk), ∀ u ∈ roundsF l kn n b, u.length ≤ 10 := by
                  intro n
                  induction n with
                  | zero => intro b u h; unfold roundsF at h; cases h
                  | succ n ih =>
                    intro b u h
                    unfold roundsF at h
                    split at h
                    · cases h
                    · rcases List.mem_cons.mp h with rfl | h
                      · exact own_len hll kn
                      · exact ih _ u h
                exact Nat.le_trans (hul 11 b u hu) (by decide)
              · have := hrn 11 b
                unfold roundsOf
                rw [List.length_map, sizeLine_eq]
                omega
          refine ⟨_, rfl, hpx, ?_⟩
          refine ⟨(fun z => absurd z (by decide)), fun _ => ?_⟩
          walk_at "w"
          rw [ctFewOwn_eq]
          refine ⟨b', l', rfl, hbo, hlo, fun n1 a1 a2 a3 a4 => ?_⟩
          walk_at "w"
          rw [ctFewOwn_eq]
          refine ⟨b, l, rfl, hb, hll, fun n2 c1 c2 c3 c4 => ?_⟩
          have enn : n1 = n2 := by
            rcases Nat.lt_trichotomy n1 n2 with h | h | h
            · exact absurd (by rw [← sm.lost]; exact a3) (c4 n1 a1 h)
            · exact h
            · exact absurd (by rw [sm.lost]; exact c3) (a4 n2 c1 h)
          rw [enn]
          walk_at "w"
          rw [show decide ((n2 : Int) = (n2 : Int)) = true from decide_eq_true rfl]
          refine ⟨(fun z => absurd z (by decide)), fun _ => ?_⟩
          clear a1 a2 a3 a4 c1 c2 c3 c4 enn
          have hpw : ∀ x ∈ ownPlan b l kn, ∃ w ∈ wished b l, w.n = x.1 := fun x hx => by
            obtain ⟨w, hw, e1, _⟩ := own_wish hll hx
            exact ⟨w, hw, e1⟩
          have hpw' : ∀ x ∈ ownPlan b l kn, ∃ w ∈ wished b' l', w.n = x.1 := fun x hx => by
            obtain ⟨w, hw, e1⟩ := hpw x hx
            exact ⟨w.scale f, by rw [sm.w]; exact List.mem_map.mpr ⟨w, hw, rfl⟩, e1⟩
          have how : ∀ n ∈ surely b l (ownPlan b l kn), isWord n = true := fun n hn => own_word hll (whole_sub hn)
          walk_at "w"
          refine bl_at (ownPlan b l kn) rfl hbo hlo ⟨own_ok hll kn, hpw'⟩ ?_
          walk_at "w"
          refine bl_at (ownPlan b l kn) rfl hb hll ⟨own_ok hll kn, hpw⟩ ?_
          rw [sm.surely hb hbo]
          walk_at "w"
          refine ⟨_, _, .lst (names_of _), .lst (names_of _), names_shaped _ how, names_shaped _ how, ?_⟩
          rw [names_eqv, decide_eq_true rfl]
          refine ⟨(fun z => absurd z (by decide)), fun _ => ?_⟩
          walk_at "w"
          refine ⟨by show 2 ≤ sizeLine; rw [sizeLine_eq]; decide, ?_⟩
          walk_at "w"
          refine ⟨by show 2 ≤ sizeLine; rw [sizeLine_eq]; decide, ?_⟩
          walk_at "w"
          rw [ctSizes_eq]
          refine ⟨p, q, a, i, xs, [], b, l, kn, f, by rw [← hb', ← hl']; rfl, rfl, hx, m, hk1, hk2, fun a i xs hx => ?_⟩
          refine ⟨(fun z => absurd z (by decide)), fun _ => ?_⟩
          walk_at "w"
          refine ⟨rfl, _, _, rfl, rfl, ?_⟩
          walk_at "w"
          refine ⟨_, by rw [← List.map_reverse]; exact SP.allD_of (fun d : Dt => d) _, ?_⟩
          rw [List.map_id', ← List.map_reverse]
          walk_at "w"
          refine ⟨_, rfl, ?_⟩
          walk_at "w"
          intro q3 hq3
          rw [ctBook_eq]
          refine ⟨q3, _, b'.rules.reverse, b.seen, rfl, rfl, by rw [List.length_reverse]; exact hbo.len, rfl, _, _, _, rfl, .cons (.cons .nil), ?_⟩
          walk_at "w"
          refine ⟨rfl, _, _, rfl, rfl, ?_⟩
          walk_at "w"
          refine ⟨_, by rw [← List.map_reverse]; exact SP.allD_of (fun d : Dt => d) _, ?_⟩
          rw [List.map_id', ← List.map_reverse]
          walk_at "w"
          refine ⟨_, rfl, ?_⟩
          walk_at "w"
          intro q4 hq4
          rw [ctBook_eq]
          refine ⟨q4, _, b.rules.reverse, b.seen, rfl, rfl, by rw [List.length_reverse]; exact hb.len, rfl, _, _, _, rfl, .cons (.cons .nil), ?_⟩
          walk_at "w"
          simp only [List.set_cons_succ, List.set_cons_zero]
          have hrb := rev_ok hb
          have hrb' : BOk ⟨b'.rules.reverse, b.seen⟩ := by rw [← hsn]; exact rev_ok hbo
          have edd : leastDiff b' ⟨b'.rules.reverse, b.seen⟩ l' kn = leastDiff b ⟨b.rules.reverse, b.seen⟩ l kn := by rw [hrev]; exact edf
          have hl7' : l.length ≤ 7 := Nat.le_trans hlm (by decide)
          have hlo7 : l'.length ≤ 7 := by rw [hl']; unfold mapS; rw [List.length_map]; exact hl7'
          cases hd2 : leastDiff b ⟨b.rules.reverse, b.seen⟩ l kn with
          | none =>
            rw [hd2] at edd
            refine Or.inl ?_
            walk_at "w"
            refine Or.inl ⟨b', ⟨b'.rules.reverse, b.seen⟩, l', kn, rfl, hbo, hrb', hlo, hlo7, hk1, hk2, ?_⟩
            rw [edd]
            walk_at "w"
            refine Or.inl ⟨b, ⟨b.rules.reverse, b.seen⟩, l, kn, rfl, hb, hrb, hll, hl7', hk1, hk2, ?_⟩
            rw [hd2]
            walk_at "ss"
            exact ⟨_, _, _, _, _, _, _, _, _, _, _, _, _, _, _, _, _, _, _, _, _, _, _, a, i, xs, rfl, rfl, hx⟩
          | some t2 =>
            rw [hd2] at edd
            have ht2 : ∀ n ∈ t2, isWord n = true := fun n hn => by
              have h1 := List.mem_of_find?_eq_some hd2
              obtain ⟨_, _, h3⟩ := (subs_mem str_ord _ _ t2).mp h1
              obtain ⟨y, hy, rfl⟩ := List.mem_map.mp (h3 n hn)
              exact (hll.ok y hy).1
            refine Or.inr ?_
            walk_at "w"
            refine Or.inl ⟨b', ⟨b'.rules.reverse, b.seen⟩, l', kn, rfl, hbo, hrb', hlo, hlo7, hk1, hk2, ?_⟩
            rw [edd]
            walk_at "w"
            refine Or.inl ⟨b, ⟨b.rules.reverse, b.seen⟩, l, kn, rfl, hb, hrb, hll, hl7', hk1, hk2, ?_⟩
            rw [hd2]
            walk_at "w"
            refine ⟨_, _, ns_of _, ns_of _, strs_tshaped ht2, strs_tshaped ht2, ?_⟩
            rw [show PyData.eqv (.tuple (t2.map .str)) (.tuple (t2.map .str)) = true from by rw [PyData.eqv]; exact strs_self t2]
            walk_at "ss"
            exact ⟨_, _, _, _, _, _, _, _, _, _, _, _, _, _, _, _, _, _, _, _, _, _, _, a, i, xs, rfl, rfl, hx⟩
    · rintro Δ' st' ⟨v2, v3, v4, v5, v6, v7, v8, v9, v10, v11, v12, v13, v14, v15, v16, v17, v18, v19, v20, v21, v22, v23, v24, a, i, xs, rfl, rfl, hx⟩
      walk_at "w"
      exact ⟨_, [], .keep (List.nil_sublist _), k⟩
end
end K73
set_option maxHeartbeats 0
open PySem PySem.Spec PySem.W PyProof.Rows L2
def looseN_K73 : List PySem.Str := (["_wall", "__name__", "RecorderError", "InvalidSending", "InvalidListing", "UnknownName", "InvalidRule", "InvalidBook", "UnknownEpisode", "NotWished", "InvalidNumber", "InvalidDelay", "GREATEST_EPISODE", "MOST_RECEIVERS", "is_word", "is_number", "is_receivers", "check_receivers", "check_number", "episode_of", "rule_for", "wished_names", "wishes", "sendings_of", "window", "wished_windows", "windows_overlap", "ascending", "on_receiver", "least_free", "taken_up", "own_plan", "no_episode_twice", "episodes_of", "lost", "plan_before", "in_the_way", "subsets", "begin_then_name", "open_at", "most_at_once", "without_doubles", "choices_among", "all_choices", "worth", "best_choice", "windows_of", "fewest_own", "busiest", "MOST_MINUTES", "MOST_NEEDED", "recorded_minutes", "minutes_of", "among", "on_disk", "least_disk", "rounds", "MOST_RULES", "GREATEST_PRIORITY", "MOST_PADDING", "wrong_part", "wrong_part_books", "Rule", "Book", "check_delays", "in_window", "whole", "surely_whole", "MOST_SENDINGS", "LATEST_BEGIN", "LATEST_END", "MOST_LATE", "wrong_part_listings", "Sending", "Listing", "difference", "_law_mix", "_law_next", "_law_alike", "_law_sendings", "_law_rules", "_law_drawn", "_law_listing", "_law_book", "_law_sizes"] : List String).map PySem.Str.ofString
local macro_rules | `(tactic| o_head (kHook $k $a $e)) => `(tactic| (refine HeadRun.head_any (r := (PySem.W.OpenLaw.row PySem.Challenge.rw_fewtuners_k73_whole_hours_made_longer)) (q := view (PySem.W.OpenLaw.row PySem.Challenge.rw_fewtuners_k73_whole_hours_made_longer).prog [97]) (H := kHook $k $a $e) (ob := (fun s => List.map (HeadRun.getT s) $a)) (M := 40000) (loose := looseN_K73) (d := HeadRun.topDef (PySem.W.OpenLaw.row PySem.Challenge.rw_fewtuners_k73_whole_hours_made_longer).prog 97) (kwd := []) (fun s => List.map_congr_left fun a _ => HeadRun.getT_eq s a) (by kernel_rfl) (fun s => by kernel_rfl) (fun w => by intro os; kernel_rfl) (by kernel_rfl) (by kernel_rfl) (by kernel_rfl) (by rfl) (by first | assumption | decide +kernel) (by decide +kernel) ⟨rfl, rfl, rfl, rfl, rfl, by decide +kernel⟩ ?hw ?hc))
theorem K73_en {KK : PySem.W.Frag} {mg : Str → Option Value} {f : Addr} {P : Program} {w : World} (S : K73.En KK mg) (e : mg "law" = some (.ref f)) : ∃ fd : FuncData, (∀ (s : Shared) (u : Value), BindsTo s fd ⟨[u], []⟩ [("_law_script", u)]) ∧ ∀ base : Heap, KK.In base → base.Ns mainGlobals mg → FnOk P w KK mg base (L2.CX P w) 12 f fd ["_law_script"] (DD.lowF KK SP.ctLaw) := by
  have z : S.f_law = f := by
    have q := S.g_law.symm.trans e
    cases q
    rfl
  subst z
  refine ⟨S.d_law, ?_, fun base _ _ => K73.ok_law S⟩
  intro s u
  obtain ⟨⟨oc, od, kV, doc, pm, an, cdv, ct, osl, e, l, c⟩, k⟩ := S.F_law
  rw [e]
  exact .of_eq (by rfl)
open_top K73_top for PySem.Challenge.rw_fewtuners_k73_whole_hours_made_longer
theorem PySem.Challenge.cw_fewtuners_k73_whole_hours_made_longer_holds : PySem.Challenge.rw_fewtuners_k73_whole_hours_made_longer.Holds := by
  refine K73_top ?_
  k_fill
  refine L2.walk_of (l := PySem.Challenge.rw_fewtuners_k73_whole_hours_made_longer) (n := 63) (k := 12) (x := "_law_script") (CX := fun w => L2.CX PySem.Challenge.rw_fewtuners_k73_whole_hours_made_longer.prog w) (sp := fun w => DD.lowF _ SP.ctLaw) rfl (by decide) rfl ⟨rfl, by decide, by decide⟩ (fun w h Y => PySem.W.kIn_of Y) ?F (fun w H a ns hl _ hS => DD.law_in hS ⟨ns, rfl, hl, rfl, rfl⟩) ?X
  case X => exact fun _ _ _ _ _ z => DD.cx_none z
  case F =>
    intro w mg fa h KX G hmg
    obtain ⟨S⟩ := DD.of_K (fun KK => Nonempty (K73.En KK mg)) KX ⟨{
        n_len := PySem.W.mg_none_of KX G (by k_is)
        n_int := PySem.W.mg_none_of KX G (by k_is)
        n_bool := PySem.W.mg_none_of KX G (by k_is)
        n_str := PySem.W.mg_none_of KX G (by k_is)
        n_list := PySem.W.mg_none_of KX G (by k_is)
        n_tuple := PySem.W.mg_none_of KX G (by k_is)
        n_dict := PySem.W.mg_none_of KX G (by k_is)
        n_range := PySem.W.mg_none_of KX G (by k_is)
        n_isinstance := PySem.W.mg_none_of KX G (by k_is)
        n_max := PySem.W.mg_none_of KX G (by k_is)
        n_min := PySem.W.mg_none_of KX G (by k_is)
        n_all := PySem.W.mg_none_of KX G (by k_is)
        n_sorted := PySem.W.mg_none_of KX G (by k_is)
        n_sum := PySem.W.mg_none_of KX G (by k_is)
        n_enumerate := PySem.W.mg_none_of KX G (by k_is)
        u_GREATEST_EPISODE := _
        c_GREATEST_EPISODE := PySem.W.mg_of KX G (by k_is)
        r_GREATEST_EPISODE := ⟨_, rfl⟩
        u_MOST_RECEIVERS := _
        c_MOST_RECEIVERS := PySem.W.mg_of KX G (by k_is)
        r_MOST_RECEIVERS := ⟨_, rfl⟩
        u_MOST_MINUTES := _
        c_MOST_MINUTES := PySem.W.mg_of KX G (by k_is)
        r_MOST_MINUTES := ⟨_, rfl⟩
        u_MOST_NEEDED := _
        c_MOST_NEEDED := PySem.W.mg_of KX G (by k_is)
        r_MOST_NEEDED := ⟨_, rfl⟩
        u_MOST_RULES := _
        c_MOST_RULES := PySem.W.mg_of KX G (by k_is)
        r_MOST_RULES := ⟨_, rfl⟩
        u_GREATEST_PRIORITY := _
        c_GREATEST_PRIORITY := PySem.W.mg_of KX G (by k_is)
        r_GREATEST_PRIORITY := ⟨_, rfl⟩
        u_MOST_PADDING := _
        c_MOST_PADDING := PySem.W.mg_of KX G (by k_is)
        r_MOST_PADDING := ⟨_, rfl⟩
        u_MOST_SENDINGS := _
        c_MOST_SENDINGS := PySem.W.mg_of KX G (by k_is)
        r_MOST_SENDINGS := ⟨_, rfl⟩
        u_LATEST_BEGIN := _
        c_LATEST_BEGIN := PySem.W.mg_of KX G (by k_is)
        r_LATEST_BEGIN := ⟨_, rfl⟩
        u_LATEST_END := _
        c_LATEST_END := PySem.W.mg_of KX G (by k_is)
        r_LATEST_END := ⟨_, rfl⟩
        u_MOST_LATE := _
        c_MOST_LATE := PySem.W.mg_of KX G (by k_is)
        r_MOST_LATE := ⟨_, rfl⟩
        f_is_word := _
        g_is_word := PySem.W.mg_of KX G (by k_is)
        d_is_word := _
        F_is_word := fun_mk (by k_is) (by k_is) (by k_is)
        f_is_number := _
        g_is_number := PySem.W.mg_of KX G (by k_is)
        d_is_number := _
        F_is_number := fun_mk (by k_is) (by k_is) (by k_is)
        f_is_receivers := _
        g_is_receivers := PySem.W.mg_of KX G (by k_is)
        d_is_receivers := _
        F_is_receivers := fun_mk (by k_is) (by k_is) (by k_is)
        f_check_receivers := _
        g_check_receivers := PySem.W.mg_of KX G (by k_is)
        d_check_receivers := _
        F_check_receivers := fun_mk (by k_is) (by k_is) (by k_is)
        f_check_number := _
        g_check_number := PySem.W.mg_of KX G (by k_is)
        d_check_number := _
        F_check_number := fun_mk (by k_is) (by k_is) (by k_is)
        f_episode_of := _
        g_episode_of := PySem.W.mg_of KX G (by k_is)
        d_episode_of := _
        F_episode_of := fun_mk (by k_is) (by k_is) (by k_is)
        f_rule_for := _
        g_rule_for := PySem.W.mg_of KX G (by k_is)
        d_rule_for := _
        F_rule_for := fun_mk (by k_is) (by k_is) (by k_is)
        f_wished_names := _
        g_wished_names := PySem.W.mg_of KX G (by k_is)
        d_wished_names := _
        F_wished_names := fun_mk (by k_is) (by k_is) (by k_is)
        f_wishes := _
        g_wishes := PySem.W.mg_of KX G (by k_is)
        d_wishes := _
        F_wishes := fun_mk (by k_is) (by k_is) (by k_is)
        f_sendings_of := _
        g_sendings_of := PySem.W.mg_of KX G (by k_is)
        d_sendings_of := _
        F_sendings_of := fun_mk (by k_is) (by k_is) (by k_is)
        f_window := _
        g_window := PySem.W.mg_of KX G (by k_is)
        d_window := _
        F_window := fun_mk (by k_is) (by k_is) (by k_is)
        f_wished_windows := _
        g_wished_windows := PySem.W.mg_of KX G (by k_is)
        d_wished_windows := _
        F_wished_windows := fun_mk (by k_is) (by k_is) (by k_is)
        f_windows_overlap := _
        g_windows_overlap := PySem.W.mg_of KX G (by k_is)
        d_windows_overlap := _
        F_windows_overlap := fun_mk (by k_is) (by k_is) (by k_is)
        f_ascending := _
        g_ascending := PySem.W.mg_of KX G (by k_is)
        d_ascending := _
        F_ascending := fun_mk (by k_is) (by k_is) (by k_is)
        f_on_receiver := _
        g_on_receiver := PySem.W.mg_of KX G (by k_is)
        d_on_receiver := _
        F_on_receiver := fun_mk (by k_is) (by k_is) (by k_is)
        f_least_free := _
        g_least_free := PySem.W.mg_of KX G (by k_is)
        d_least_free := _
        F_least_free := fun_mk (by k_is) (by k_is) (by k_is)
        f_taken_up := _
        g_taken_up := PySem.W.mg_of KX G (by k_is)
        d_taken_up := _
        F_taken_up := fun_mk (by k_is) (by k_is) (by k_is)
        f_own_plan := _
        g_own_plan := PySem.W.mg_of KX G (by k_is)
        d_own_plan := _
        F_own_plan := fun_mk (by k_is) (by k_is) (by k_is)
        f_no_episode_twice := _
        g_no_episode_twice := PySem.W.mg_of KX G (by k_is)
        d_no_episode_twice := _
        F_no_episode_twice := fun_mk (by k_is) (by k_is) (by k_is)
        f_episodes_of := _
        g_episodes_of := PySem.W.mg_of KX G (by k_is)
        d_episodes_of := _
        F_episodes_of := fun_mk (by k_is) (by k_is) (by k_is)
        f_lost := _
        g_lost := PySem.W.mg_of KX G (by k_is)
        d_lost := _
        F_lost := fun_mk (by k_is) (by k_is) (by k_is)
        f_plan_before := _
        g_plan_before := PySem.W.mg_of KX G (by k_is)
        d_plan_before := _
        F_plan_before := fun_mk (by k_is) (by k_is) (by k_is)
        f_in_the_way := _
        g_in_the_way := PySem.W.mg_of KX G (by k_is)
        d_in_the_way := _
        F_in_the_way := fun_mk (by k_is) (by k_is) (by k_is)
        f_subsets := _
        g_subsets := PySem.W.mg_of KX G (by k_is)
        d_subsets := _
        F_subsets := fun_mk (by k_is) (by k_is) (by k_is)
        f_begin_then_name := _
        g_begin_then_name := PySem.W.mg_of KX G (by k_is)
        d_begin_then_name := _
        F_begin_then_name := fun_mk (by k_is) (by k_is) (by k_is)
        f_open_at := _
        g_open_at := PySem.W.mg_of KX G (by k_is)
        d_open_at := _
        F_open_at := fun_mk (by k_is) (by k_is) (by k_is)
        f_most_at_once := _
        g_most_at_once := PySem.W.mg_of KX G (by k_is)
        d_most_at_once := _
        F_most_at_once := fun_mk (by k_is) (by k_is) (by k_is)
        f_without_doubles := _
        g_without_doubles := PySem.W.mg_of KX G (by k_is)
        d_without_doubles := _
        F_without_doubles := fun_mk (by k_is) (by k_is) (by k_is)
        f_choices_among := _
        g_choices_among := PySem.W.mg_of KX G (by k_is)
        d_choices_among := _
        F_choices_among := fun_mk (by k_is) (by k_is) (by k_is)
        f_all_choices := _
        g_all_choices := PySem.W.mg_of KX G (by k_is)
        d_all_choices := _
        F_all_choices := fun_mk (by k_is) (by k_is) (by k_is)
        f_worth := _
        g_worth := PySem.W.mg_of KX G (by k_is)
        d_worth := _
        F_worth := fun_mk (by k_is) (by k_is) (by k_is)
        f_best_choice := _
        g_best_choice := PySem.W.mg_of KX G (by k_is)
        d_best_choice := _
        F_best_choice := fun_mk (by k_is) (by k_is) (by k_is)
        f_windows_of := _
        g_windows_of := PySem.W.mg_of KX G (by k_is)
        d_windows_of := _
        F_windows_of := fun_mk (by k_is) (by k_is) (by k_is)
        f_fewest_own := _
        g_fewest_own := PySem.W.mg_of KX G (by k_is)
        d_fewest_own := _
        F_fewest_own := fun_mk (by k_is) (by k_is) (by k_is)
        f_busiest := _
        g_busiest := PySem.W.mg_of KX G (by k_is)
        d_busiest := _
        F_busiest := fun_mk (by k_is) (by k_is) (by k_is)
        f_recorded_minutes := _
        g_recorded_minutes := PySem.W.mg_of KX G (by k_is)
        d_recorded_minutes := _
        F_recorded_minutes := fun_mk (by k_is) (by k_is) (by k_is)
        f_minutes_of := _
        g_minutes_of := PySem.W.mg_of KX G (by k_is)
        d_minutes_of := _
        F_minutes_of := fun_mk (by k_is) (by k_is) (by k_is)
        f_among := _
        g_among := PySem.W.mg_of KX G (by k_is)
        d_among := _
        F_among := fun_mk (by k_is) (by k_is) (by k_is)
        f_on_disk := _
        g_on_disk := PySem.W.mg_of KX G (by k_is)
        d_on_disk := _
        F_on_disk := fun_mk (by k_is) (by k_is) (by k_is)
        f_least_disk := _
        g_least_disk := PySem.W.mg_of KX G (by k_is)
        d_least_disk := _
        F_least_disk := fun_mk (by k_is) (by k_is) (by k_is)
        f_rounds := _
        g_rounds := PySem.W.mg_of KX G (by k_is)
        d_rounds := _
        F_rounds := fun_mk (by k_is) (by k_is) (by k_is)
        f_wrong_part_books := _
        g_wrong_part_books := PySem.W.mg_of KX G (by k_is)
        d_wrong_part_books := _
        F_wrong_part_books := fun_mk (by k_is) (by k_is) (by k_is)
        f_check_delays := _
        g_check_delays := PySem.W.mg_of KX G (by k_is)
        d_check_delays := _
        F_check_delays := fun_mk (by k_is) (by k_is) (by k_is)
        f_in_window := _
        g_in_window := PySem.W.mg_of KX G (by k_is)
        d_in_window := _
        F_in_window := fun_mk (by k_is) (by k_is) (by k_is)
        f_whole := _
        g_whole := PySem.W.mg_of KX G (by k_is)
        d_whole := _
        F_whole := fun_mk (by k_is) (by k_is) (by k_is)
        f_surely_whole := _
        g_surely_whole := PySem.W.mg_of KX G (by k_is)
        d_surely_whole := _
        F_surely_whole := fun_mk (by k_is) (by k_is) (by k_is)
        f_wrong_part_listings := _
        g_wrong_part_listings := PySem.W.mg_of KX G (by k_is)
        d_wrong_part_listings := _
        F_wrong_part_listings := fun_mk (by k_is) (by k_is) (by k_is)
        f_difference := _
        g_difference := PySem.W.mg_of KX G (by k_is)
        d_difference := _
        F_difference := fun_mk (by k_is) (by k_is) (by k_is)
        f_law_mix := _
        g_law_mix := PySem.W.mg_of KX G (by k_is)
        d_law_mix := _
        F_law_mix := fun_mk (by k_is) (by k_is) (by k_is)
        f_law_next := _
        g_law_next := PySem.W.mg_of KX G (by k_is)
        d_law_next := _
        F_law_next := fun_mk (by k_is) (by k_is) (by k_is)
        f_law_alike := _
        g_law_alike := PySem.W.mg_of KX G (by k_is)
        d_law_alike := _
        F_law_alike := fun_mk (by k_is) (by k_is) (by k_is)
        f_law_sendings := _
        g_law_sendings := PySem.W.mg_of KX G (by k_is)
        d_law_sendings := _
        F_law_sendings := fun_mk (by k_is) (by k_is) (by k_is)
        f_law_rules := _
        g_law_rules := PySem.W.mg_of KX G (by k_is)
        d_law_rules := _
        F_law_rules := fun_mk (by k_is) (by k_is) (by k_is)
        f_law_drawn := _
        g_law_drawn := PySem.W.mg_of KX G (by k_is)
        d_law_drawn := _
        F_law_drawn := fun_mk (by k_is) (by k_is) (by k_is)
        f_law_listing := _
        g_law_listing := PySem.W.mg_of KX G (by k_is)
        d_law_listing := _
        F_law_listing := fun_mk (by k_is) (by k_is) (by k_is)
        f_law_book := _
        g_law_book := PySem.W.mg_of KX G (by k_is)
        d_law_book := _
        F_law_book := fun_mk (by k_is) (by k_is) (by k_is)
        f_law_sizes := _
        g_law_sizes := PySem.W.mg_of KX G (by k_is)
        d_law_sizes := _
        F_law_sizes := fun_mk (by k_is) (by k_is) (by k_is)
        f_law := _
        g_law := PySem.W.mg_of KX G (by k_is)
        d_law := _
        F_law := fun_mk (by k_is) (by k_is) (by k_is)
        C_Rule := _
        g_Rule := PySem.W.mg_of KX G (by k_is)
        cl_Rule := ⟨by k_is, by k_is, by k_is, by k_is⟩
        in_Rule := ⟨⟨by k_is, by k_is, by k_is, by k_is⟩, by k_is, by k_is, by k_is, by k_is⟩
        f_Rule_init := _
        mk_Rule := ⟨by k_is, by k_is, by k_is, by k_is⟩
        d_Rule_init := _
        F_Rule_init := DD.fund_mk (its := [_, _]) (by k_is) (by k_is) (by k_is) (by k_is) (by decide) (.cons ⟨_, rfl⟩ (.cons ⟨_, rfl⟩ (.nil)))
        f_Rule_show := _
        q_Rule_show := _
        p_Rule_show := ⟨by k_is, by k_is, by k_is, _, by k_is⟩
        d_Rule_show := _
        F_Rule_show := fun_mk (by k_is) (by k_is) (by k_is)
        f_Rule_first := _
        q_Rule_first := _
        p_Rule_first := ⟨by k_is, by k_is, by k_is, _, by k_is⟩
        d_Rule_first := _
        F_Rule_first := fun_mk (by k_is) (by k_is) (by k_is)
        f_Rule_last := _
        q_Rule_last := _
        p_Rule_last := ⟨by k_is, by k_is, by k_is, _, by k_is⟩
        d_Rule_last := _
        F_Rule_last := fun_mk (by k_is) (by k_is) (by k_is)
        f_Rule_priority := _
        q_Rule_priority := _
        p_Rule_priority := ⟨by k_is, by k_is, by k_is, _, by k_is⟩
        d_Rule_priority := _
        F_Rule_priority := fun_mk (by k_is) (by k_is) (by k_is)
        f_Rule_before := _
        q_Rule_before := _
        p_Rule_before := ⟨by k_is, by k_is, by k_is, _, by k_is⟩
        d_Rule_before := _
        F_Rule_before := fun_mk (by k_is) (by k_is) (by k_is)
        f_Rule_after := _
        q_Rule_after := _
        p_Rule_after := ⟨by k_is, by k_is, by k_is, _, by k_is⟩
        d_Rule_after := _
        F_Rule_after := fun_mk (by k_is) (by k_is) (by k_is)
        f_Rule_eq := _
        e_Rule_eq := by k_is
        fn_Rule_eq := by k_is
        ne_Rule := DD.nec_of (by k_is) (by kernel_rfl) (by k_is) (by k_is) (by k_is) rfl
        d_Rule_eq := _
        F_Rule_eq := fun_mk (by k_is) (by k_is) (by k_is)
        na_Rule_show := DD.na_of (by k_is)
        na_Rule_first := DD.na_of (by k_is)
        na_Rule_last := DD.na_of (by k_is)
        na_Rule_priority := DD.na_of (by k_is)
        na_Rule_before := DD.na_of (by k_is)
        na_Rule_after := DD.na_of (by k_is)
        C_Book := _
        g_Book := PySem.W.mg_of KX G (by k_is)
        cl_Book := ⟨by k_is, by k_is, by k_is, by k_is⟩
        in_Book := ⟨⟨by k_is, by k_is, by k_is, by k_is⟩, by k_is, by k_is, by k_is, by k_is⟩
        f_Book_init := _
        mk_Book := ⟨by k_is, by k_is, by k_is, by k_is⟩
        d_Book_init := _
        a_Book_init := _
        F_Book_init := DD.fund_mk (its := [_]) (by k_is) (by k_is) (by k_is) (by k_is) (by decide) (.cons rfl (.nil))
        kt_Book_init := ⟨_, _, by k_is, rfl, rfl⟩
        f_Book_rules := _
        q_Book_rules := _
        p_Book_rules := ⟨by k_is, by k_is, by k_is, _, by k_is⟩
        d_Book_rules := _
        F_Book_rules := fun_mk (by k_is) (by k_is) (by k_is)
        f_Book_seen := _
        q_Book_seen := _
        p_Book_seen := ⟨by k_is, by k_is, by k_is, _, by k_is⟩
        d_Book_seen := _
        F_Book_seen := fun_mk (by k_is) (by k_is) (by k_is)
        f_Book_rule_of := _
        m_Book_rule_of := ⟨by k_is, by k_is, by k_is⟩
        d_Book_rule_of := _
        F_Book_rule_of := fun_mk (by k_is) (by k_is) (by k_is)
        f_Book_with_seen := _
        m_Book_with_seen := ⟨by k_is, by k_is, by k_is⟩
        d_Book_with_seen := _
        F_Book_with_seen := fun_mk (by k_is) (by k_is) (by k_is)
        f_Book_eq := _
        e_Book_eq := by k_is
        fn_Book_eq := by k_is
        ne_Book := DD.nec_of (by k_is) (by kernel_rfl) (by k_is) (by k_is) (by k_is) rfl
        d_Book_eq := _
        F_Book_eq := fun_mk (by k_is) (by k_is) (by k_is)
        na_Book_rules := DD.na_of (by k_is)
        na_Book_seen := DD.na_of (by k_is)
        C_Sending := _
        g_Sending := PySem.W.mg_of KX G (by k_is)
        cl_Sending := ⟨by k_is, by k_is, by k_is, by k_is⟩
        in_Sending := ⟨⟨by k_is, by k_is, by k_is, by k_is⟩, by k_is, by k_is, by k_is, by k_is⟩
        f_Sending_init := _
        mk_Sending := ⟨by k_is, by k_is, by k_is, by k_is⟩
        d_Sending_init := _
        F_Sending_init := DD.fund_mk (its := [_]) (by k_is) (by k_is) (by k_is) (by k_is) (by decide) (.cons ⟨_, rfl⟩ (.nil))
        f_Sending_channel := _
        q_Sending_channel := _
        p_Sending_channel := ⟨by k_is, by k_is, by k_is, _, by k_is⟩
        d_Sending_channel := _
        F_Sending_channel := fun_mk (by k_is) (by k_is) (by k_is)
        f_Sending_show := _
        q_Sending_show := _
        p_Sending_show := ⟨by k_is, by k_is, by k_is, _, by k_is⟩
        d_Sending_show := _
        F_Sending_show := fun_mk (by k_is) (by k_is) (by k_is)
        f_Sending_episode := _
        q_Sending_episode := _
        p_Sending_episode := ⟨by k_is, by k_is, by k_is, _, by k_is⟩
        d_Sending_episode := _
        F_Sending_episode := fun_mk (by k_is) (by k_is) (by k_is)
        f_Sending_begin := _
        q_Sending_begin := _
        p_Sending_begin := ⟨by k_is, by k_is, by k_is, _, by k_is⟩
        d_Sending_begin := _
        F_Sending_begin := fun_mk (by k_is) (by k_is) (by k_is)
        f_Sending_end := _
        q_Sending_end := _
        p_Sending_end := ⟨by k_is, by k_is, by k_is, _, by k_is⟩
        d_Sending_end := _
        F_Sending_end := fun_mk (by k_is) (by k_is) (by k_is)
        f_Sending_late := _
        q_Sending_late := _
        p_Sending_late := ⟨by k_is, by k_is, by k_is, _, by k_is⟩
        d_Sending_late := _
        F_Sending_late := fun_mk (by k_is) (by k_is) (by k_is)
        f_Sending_eq := _
        e_Sending_eq := by k_is
        fn_Sending_eq := by k_is
        ne_Sending := DD.nec_of (by k_is) (by kernel_rfl) (by k_is) (by k_is) (by k_is) rfl
        d_Sending_eq := _
        F_Sending_eq := fun_mk (by k_is) (by k_is) (by k_is)
        na_Sending_channel := DD.na_of (by k_is)
        na_Sending_show := DD.na_of (by k_is)
        na_Sending_episode := DD.na_of (by k_is)
        na_Sending_begin := DD.na_of (by k_is)
        na_Sending_end := DD.na_of (by k_is)
        na_Sending_late := DD.na_of (by k_is)
        C_Listing := _
        g_Listing := PySem.W.mg_of KX G (by k_is)
        cl_Listing := ⟨by k_is, by k_is, by k_is, by k_is⟩
        in_Listing := ⟨⟨by k_is, by k_is, by k_is, by k_is⟩, by k_is, by k_is, by k_is, by k_is⟩
        f_Listing_init := _
        mk_Listing := ⟨by k_is, by k_is, by k_is, by k_is⟩
        d_Listing_init := _
        F_Listing_init := fun_mk (by k_is) (by k_is) (by k_is)
        f_Listing_names := _
        q_Listing_names := _
        p_Listing_names := ⟨by k_is, by k_is, by k_is, _, by k_is⟩
        d_Listing_names := _
        F_Listing_names := fun_mk (by k_is) (by k_is) (by k_is)
        f_Listing_sendings := _
        q_Listing_sendings := _
        p_Listing_sendings := ⟨by k_is, by k_is, by k_is, _, by k_is⟩
        d_Listing_sendings := _
        F_Listing_sendings := fun_mk (by k_is) (by k_is) (by k_is)
        f_Listing_only := _
        m_Listing_only := ⟨by k_is, by k_is, by k_is⟩
        d_Listing_only := _
        F_Listing_only := fun_mk (by k_is) (by k_is) (by k_is)
        f_Listing_getitem := _
        sg_Listing_getitem := by k_is
        fi_Listing_getitem := by k_is
        fn_Listing_getitem := by k_is
        d_Listing_getitem := _
        F_Listing_getitem := fun_mk (by k_is) (by k_is) (by k_is)
        f_Listing_contains := _
        sg_Listing_contains := by k_is
        fi_Listing_contains := by k_is
        fn_Listing_contains := by k_is
        d_Listing_contains := _
        F_Listing_contains := fun_mk (by k_is) (by k_is) (by k_is)
        f_Listing_len := _
        sg_Listing_len := by k_is
        fi_Listing_len := by k_is
        fn_Listing_len := by k_is
        d_Listing_len := _
        F_Listing_len := fun_mk (by k_is) (by k_is) (by k_is)
        f_Listing_eq := _
        e_Listing_eq := by k_is
        fn_Listing_eq := by k_is
        ne_Listing := DD.nec_of (by k_is) (by kernel_rfl) (by k_is) (by k_is) (by k_is) rfl
        d_Listing_eq := _
        F_Listing_eq := fun_mk (by k_is) (by k_is) (by k_is)
        na_Listing_sendings := DD.na_of (by k_is)
        ki_Rule_Rule := DD.kit_same
        ki_Book_Rule := DD.kit_cr (by decide) (by k_is) (by k_is) (by k_is)
        ki_Sending_Rule := DD.kit_cr (by decide) (by k_is) (by k_is) (by k_is)
        ki_Listing_Rule := DD.kit_cr (by decide) (by k_is) (by k_is) (by k_is)
        kb_NoneType_Rule := DD.kit_cr (by rfl) (by k_is) (by k_is) (by k_is)
        kb_bool_Rule := DD.kit_cr (by rfl) (by k_is) (by k_is) (by k_is)
        kb_int_Rule := DD.kit_cr (by rfl) (by k_is) (by k_is) (by k_is)
        kb_str_Rule := DD.kit_cr (by rfl) (by k_is) (by k_is) (by k_is)
        kb_list_Rule := DD.kit_cr (by rfl) (by k_is) (by k_is) (by k_is)
        kb_tuple_Rule := DD.kit_cr (by rfl) (by k_is) (by k_is) (by k_is)
        kb_dict_Rule := DD.kit_cr (by rfl) (by k_is) (by k_is) (by k_is)
        ko_Rule_bool := DD.kit_ct (by kernel_rfl) (by k_is)
        ko_Rule_int := DD.kit_ct (by kernel_rfl) (by k_is)
        ko_Rule_str := DD.kit_ct (by kernel_rfl) (by k_is)
        ko_Rule_list := DD.kit_ct (by kernel_rfl) (by k_is)
        ko_Rule_tuple := DD.kit_ct (by kernel_rfl) (by k_is)
        ko_Rule_dict := DD.kit_ct (by kernel_rfl) (by k_is)
        ki_Rule_Book := DD.kit_cr (by decide) (by k_is) (by k_is) (by k_is)
        ki_Book_Book := DD.kit_same
        ki_Sending_Book := DD.kit_cr (by decide) (by k_is) (by k_is) (by k_is)
        ki_Listing_Book := DD.kit_cr (by decide) (by k_is) (by k_is) (by k_is)
        kb_NoneType_Book := DD.kit_cr (by rfl) (by k_is) (by k_is) (by k_is)
        kb_bool_Book := DD.kit_cr (by rfl) (by k_is) (by k_is) (by k_is)
        kb_int_Book := DD.kit_cr (by rfl) (by k_is) (by k_is) (by k_is)
        kb_str_Book := DD.kit_cr (by rfl) (by k_is) (by k_is) (by k_is)
        kb_list_Book := DD.kit_cr (by rfl) (by k_is) (by k_is) (by k_is)
        kb_tuple_Book := DD.kit_cr (by rfl) (by k_is) (by k_is) (by k_is)
        kb_dict_Book := DD.kit_cr (by rfl) (by k_is) (by k_is) (by k_is)
        ko_Book_bool := DD.kit_ct (by kernel_rfl) (by k_is)
        ko_Book_int := DD.kit_ct (by kernel_rfl) (by k_is)
        ko_Book_str := DD.kit_ct (by kernel_rfl) (by k_is)
        ko_Book_list := DD.kit_ct (by kernel_rfl) (by k_is)
        ko_Book_tuple := DD.kit_ct (by kernel_rfl) (by k_is)
        ko_Book_dict := DD.kit_ct (by kernel_rfl) (by k_is)
        ki_Rule_Sending := DD.kit_cr (by decide) (by k_is) (by k_is) (by k_is)
        ki_Book_Sending := DD.kit_cr (by decide) (by k_is) (by k_is) (by k_is)
        ki_Sending_Sending := DD.kit_same
        ki_Listing_Sending := DD.kit_cr (by decide) (by k_is) (by k_is) (by k_is)
        kb_NoneType_Sending := DD.kit_cr (by rfl) (by k_is) (by k_is) (by k_is)
        kb_bool_Sending := DD.kit_cr (by rfl) (by k_is) (by k_is) (by k_is)
        kb_int_Sending := DD.kit_cr (by rfl) (by k_is) (by k_is) (by k_is)
        kb_str_Sending := DD.kit_cr (by rfl) (by k_is) (by k_is) (by k_is)
        kb_list_Sending := DD.kit_cr (by rfl) (by k_is) (by k_is) (by k_is)
        kb_tuple_Sending := DD.kit_cr (by rfl) (by k_is) (by k_is) (by k_is)
        kb_dict_Sending := DD.kit_cr (by rfl) (by k_is) (by k_is) (by k_is)
        ko_Sending_bool := DD.kit_ct (by kernel_rfl) (by k_is)
        ko_Sending_int := DD.kit_ct (by kernel_rfl) (by k_is)
        ko_Sending_str := DD.kit_ct (by kernel_rfl) (by k_is)
        ko_Sending_list := DD.kit_ct (by kernel_rfl) (by k_is)
        ko_Sending_tuple := DD.kit_ct (by kernel_rfl) (by k_is)
        ko_Sending_dict := DD.kit_ct (by kernel_rfl) (by k_is)
        ki_Rule_Listing := DD.kit_cr (by decide) (by k_is) (by k_is) (by k_is)
        ki_Book_Listing := DD.kit_cr (by decide) (by k_is) (by k_is) (by k_is)
        ki_Sending_Listing := DD.kit_cr (by decide) (by k_is) (by k_is) (by k_is)
        ki_Listing_Listing := DD.kit_same
        kb_NoneType_Listing := DD.kit_cr (by rfl) (by k_is) (by k_is) (by k_is)
        kb_bool_Listing := DD.kit_cr (by rfl) (by k_is) (by k_is) (by k_is)
        kb_int_Listing := DD.kit_cr (by rfl) (by k_is) (by k_is) (by k_is)
        kb_str_Listing := DD.kit_cr (by rfl) (by k_is) (by k_is) (by k_is)
        kb_list_Listing := DD.kit_cr (by rfl) (by k_is) (by k_is) (by k_is)
        kb_tuple_Listing := DD.kit_cr (by rfl) (by k_is) (by k_is) (by k_is)
        kb_dict_Listing := DD.kit_cr (by rfl) (by k_is) (by k_is) (by k_is)
        ko_Listing_bool := DD.kit_ct (by kernel_rfl) (by k_is)
        ko_Listing_int := DD.kit_ct (by kernel_rfl) (by k_is)
        ko_Listing_str := DD.kit_ct (by kernel_rfl) (by k_is)
        ko_Listing_list := DD.kit_ct (by kernel_rfl) (by k_is)
        ko_Listing_tuple := DD.kit_ct (by kernel_rfl) (by k_is)
        ko_Listing_dict := DD.kit_ct (by kernel_rfl) (by k_is)
        C_RecorderError := _
        g_RecorderError := PySem.W.mg_of KX G (by k_is)
        kc_RecorderError := by k_is
        r_RecorderError := by k_is
        ty_RecorderError := by k_is
        C_InvalidSending := _
        g_InvalidSending := PySem.W.mg_of KX G (by k_is)
        kc_InvalidSending := by k_is
        r_InvalidSending := by k_is
        ty_InvalidSending := by k_is
        f_InvalidSending_init := _
        T_InvalidSending := DD.oex_of (by k_is) (by kernel_rfl) (by k_is) (by k_is) (by k_is) (by k_is)
        i_InvalidSending := by k_is
        t_InvalidSending := by k_is
        X_InvalidSending := ⟨by k_is, by k_is, by k_is, by k_is⟩
        nf_InvalidSending := by k_is
        d_InvalidSending_init := _
        F_InvalidSending_init := fun_mk (by k_is) (by k_is) (by k_is)
        C_InvalidListing := _
        g_InvalidListing := PySem.W.mg_of KX G (by k_is)
        kc_InvalidListing := by k_is
        r_InvalidListing := by k_is
        ty_InvalidListing := by k_is
        f_InvalidListing_init := _
        T_InvalidListing := DD.oex_of (by k_is) (by kernel_rfl) (by k_is) (by k_is) (by k_is) (by k_is)
        i_InvalidListing := by k_is
        t_InvalidListing := by k_is
        X_InvalidListing := ⟨by k_is, by k_is, by k_is, by k_is⟩
        nf_InvalidListing := by k_is
        d_InvalidListing_init := _
        F_InvalidListing_init := fun_mk (by k_is) (by k_is) (by k_is)
        C_UnknownName := _
        g_UnknownName := PySem.W.mg_of KX G (by k_is)
        kc_UnknownName := by k_is
        r_UnknownName := by k_is
        ty_UnknownName := by k_is
        x_UnknownName := by kernel_rfl
        C_InvalidRule := _
        g_InvalidRule := PySem.W.mg_of KX G (by k_is)
        kc_InvalidRule := by k_is
        r_InvalidRule := by k_is
        ty_InvalidRule := by k_is
        f_InvalidRule_init := _
        T_InvalidRule := DD.oex_of (by k_is) (by kernel_rfl) (by k_is) (by k_is) (by k_is) (by k_is)
        i_InvalidRule := by k_is
        t_InvalidRule := by k_is
        X_InvalidRule := ⟨by k_is, by k_is, by k_is, by k_is⟩
        nf_InvalidRule := by k_is
        d_InvalidRule_init := _
        F_InvalidRule_init := fun_mk (by k_is) (by k_is) (by k_is)
        C_InvalidBook := _
        g_InvalidBook := PySem.W.mg_of KX G (by k_is)
        kc_InvalidBook := by k_is
        r_InvalidBook := by k_is
        ty_InvalidBook := by k_is
        x_InvalidBook := by kernel_rfl
        C_UnknownEpisode := _
        g_UnknownEpisode := PySem.W.mg_of KX G (by k_is)
        kc_UnknownEpisode := by k_is
        r_UnknownEpisode := by k_is
        ty_UnknownEpisode := by k_is
        x_UnknownEpisode := by kernel_rfl
        C_NotWished := _
        g_NotWished := PySem.W.mg_of KX G (by k_is)
        kc_NotWished := by k_is
        r_NotWished := by k_is
        ty_NotWished := by k_is
        x_NotWished := by kernel_rfl
        C_InvalidNumber := _
        g_InvalidNumber := PySem.W.mg_of KX G (by k_is)
        kc_InvalidNumber := by k_is
        r_InvalidNumber := by k_is
        ty_InvalidNumber := by k_is
        x_InvalidNumber := by kernel_rfl
        C_InvalidDelay := _
        g_InvalidDelay := PySem.W.mg_of KX G (by k_is)
        kc_InvalidDelay := by k_is
        r_InvalidDelay := by k_is
        ty_InvalidDelay := by k_is
        f_InvalidDelay_init := _
        T_InvalidDelay := DD.oex_of (by k_is) (by kernel_rfl) (by k_is) (by k_is) (by k_is) (by k_is)
        i_InvalidDelay := by k_is
        t_InvalidDelay := by k_is
        X_InvalidDelay := ⟨by k_is, by k_is, by k_is, by k_is⟩
        nf_InvalidDelay := by k_is
        d_InvalidDelay_init := _
        F_InvalidDelay_init := fun_mk (by k_is) (by k_is) (by k_is) }⟩
    exact K73_en S hmg
