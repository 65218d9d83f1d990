import PyProof.Rows.All
import Wide.All
import OpenK.AllK
import Wide.FinOn
import PySem.Challenge.RW_gaprows_k15_whole_alike_or_parted
import KE.KStateDown
import PyProof.P3Eq
import PyProof.Rows.SeqCalls
import PyProof.Rows.FactsT1
import PyProof.Rows.FactsN_isinstance
import HandS.ForMost
import HandS.ForExc
import HandS.IsInst
import HandS.TupLe
import HandS.Flow
import HandS.More
import HandS.TupAny
import HandS.TupMul
import HandS.Wide
import HandS.Conv
import HandS.Flt
import HandS.SortInts
import HandS.TryOnly
import HandS.AnyAll
import HandS.GenList
import HandS.GenOver
import HandS.Style
import HandS.Iter
import HandS.Zip
import HandS.WordsExc
import HandS.Defaults
import HandS.HeadHook1
import HandS.HeadHook2
import HandS.HeadHook3
import HandS.HeadHook4
import HandS.EndTab
import HandS.HeadWalk
import HandS.Head0
import HandS.Head1
import HandS.Head2
set_option Elab.async false
set_option linter.all false
set_option maxRecDepth 1000000
set_option maxHeartbeats 0
namespace Gq
open PySem PySem.Spec L2

abbrev D := PyData
inductive Vl where
  | dat (d : D) | fr (ds : List D) | hnd (n : Nat)
inductive Sl where
  | un | dat (d : D) | own (ds : List D) | hnd (n : Nat)
inductive Cell where
  | lst (ds : List D) | ins (c : Str) (fs : List (Str × D))
structure S where
  env : List Sl
  mem : List Cell
inductive Rs (α : Type) where
  | ok (a : α) (s : S) | exc (c : Str) (fs : List (Str × D)) (s : S) | no
abbrev Mo (α : Type) := S → Rs α
def Rs.bind {α β : Type} (r : Rs α) (f : α → Mo β) : Rs β := match r with
  | .ok a s => f a s
  | .exc c fs s => .exc c fs s
  | .no => .no
def pur {α : Type} (a : α) : Mo α := fun s => .ok a s
def bnd {α β : Type} (m : Mo α) (f : α → Mo β) : Mo β := fun s => (m s).bind f
def opt {α : Type} (o : Option α) : Mo α := fun s => match o with
  | some a => .ok a s
  | none => .no

mutual
theorem Dp.mono {K : PySem.W.Frag} {F F' : Hp} (le : Same F F') : ∀ (d : D) (v : V), Dp K F v d → Dp K F' v d
  | .none, _, h => by cases h; exact .non
  | .bool b, _, h => by cases h; exact .bl b
  | .int i, _, h => by cases h; exact .int i
  | .str x, _, h => by cases h; exact .str x
  | .list ds, _, h => by
    cases h with
    | lst hs ha => exact .lst (le.seq hs) (Dp.monoA le ds _ ha)
  | .tuple ds, _, h => by
    cases h with
    | tup hs ha =>
      refine .tup ?_ (Dp.monoA le ds _ ha)
      rcases hs with (h | ⟨o, h⟩) | h
      · exact .inl (.inl (le _ _ h))
      · exact .inl (.inr ⟨o, le _ _ h⟩)
      · exact .inr h
  | .dict _, _, h => by cases h
theorem Dp.monoA {K : PySem.W.Frag} {F F' : Hp} (le : Same F F') : ∀ (ds : List D) (vs : List V), DpAll K F vs ds → DpAll K F' vs ds
  | [], _, h => by cases h; exact .nil
  | d :: ds, _, h => by
    cases h with
    | cons h1 h2 => exact .cons (Dp.mono le d _ h1) (Dp.monoA le ds _ h2)
end
section
variable {K : PySem.W.Frag} {F F' : Hp}
theorem DpAll.len : ∀ {vs : List V} {ds : List D}, DpAll K F vs ds → vs.length = ds.length
  | _, [], h => by cases h; rfl
  | _, d :: ds, h => by cases h with | cons _ t => simp [DpAll.len t]
theorem DpAll.at : ∀ {vs : List V} {ds : List D} {i : Nat} {d : D}, DpAll K F vs ds → ds[i]? = some d → ∃ v, vs[i]? = some v ∧ Dp K F v d
  | _, [], _, _, _, e => by simp at e
  | _, _ :: _, 0, _, h, e => by cases h with | cons a _ => simp at e; subst e; exact ⟨_, rfl, a⟩
  | _, _ :: ds, i + 1, d, h, e => by
    cases h with
    | cons _ t =>
      obtain ⟨v, h1, h2⟩ := DpAll.at (i := i) (d := d) t (by simpa using e)
      exact ⟨v, by simpa using h1, h2⟩
theorem DpAll.app : ∀ {vs ws : List V} {ds es : List D}, DpAll K F vs ds → DpAll K F ws es → DpAll K F (vs ++ ws) (ds ++ es)
  | _, _, [], _, h, h' => by cases h; exact h'
  | _, _, _ :: _, _, h, h' => by cases h with | cons a t => exact .cons a (DpAll.app t h')
theorem DpAll.tak : ∀ {vs : List V} {ds : List D} (n : Nat), DpAll K F vs ds → DpAll K F (vs.take n) (ds.take n)
  | _, [], n, h => by cases h; simp; exact .nil
  | _, _ :: _, 0, h => by cases h with | cons _ _ => exact .nil
  | _, _ :: _, n + 1, h => by cases h with | cons a t => exact .cons a (DpAll.tak n t)
theorem DpAll.drp : ∀ {vs : List V} {ds : List D} (n : Nat), DpAll K F vs ds → DpAll K F (vs.drop n) (ds.drop n)
  | _, [], n, h => by cases h; simp; exact .nil
  | _, _ :: _, 0, h => h
  | _, _ :: _, n + 1, h => by cases h with | cons _ t => exact DpAll.drp n t
theorem DpAll.upd' : ∀ {vs : List V} {ds : List D} (i : Nat) {v : V} {d : D}, DpAll K F vs ds → Dp K F v d → DpAll K F (vs.set i v) (ds.set i d)
  | _, [], n, _, _, h, _ => by cases h; simp; exact .nil
  | _, _ :: _, 0, _, _, h, q => by cases h with | cons _ t => exact .cons q t
  | _, _ :: _, n + 1, _, _, h, q => by cases h with | cons a t => exact .cons a (DpAll.upd' n t q)
theorem DpAll.rev : ∀ {vs : List V} {ds : List D}, DpAll K F vs ds → DpAll K F vs.reverse ds.reverse
  | _, [], h => by cases h; exact .nil
  | _, _ :: _, h => by
    cases h with
    | cons a t =>
      rw [List.reverse_cons, List.reverse_cons]
      exact DpAll.app (DpAll.rev t) (.cons a .nil)
theorem DpAll.one {v : V} {d : D} (h : Dp K F v d) : DpAll K F [v] [d] := .cons h .nil
theorem DpAll.rep {v : V} {d : D} (h : Dp K F v d) : ∀ n : Nat, DpAll K F (List.replicate n v) (List.replicate n d)
  | 0 => .nil
  | n + 1 => by rw [List.replicate_succ, List.replicate_succ]; exact .cons h (DpAll.rep h n)
end
end Gq

namespace Gq
open PySem PySem.Spec L2

structure Sh (K : PySem.W.Frag) (F : Hp) (v : V) (d : D) : Prop where
  dp : Dp K F v d
  ok : d.canLay0 = true
structure ShA (K : PySem.W.Frag) (F : Hp) (vs : List V) (ds : List D) : Prop where
  dp : DpAll K F vs ds
  ok : PyData.canLayAll0 ds = true
theorem Same.rfl' {H : Hp} : Same H H := fun _ _ h => h
section
variable {K : PySem.W.Frag} {F F' : Hp} {v : V} {d : D} {vs ws : List V} {ds es : List D}
theorem Sh.mono (le : Same F F') (h : Sh K F v d) : Sh K F' v d := ⟨Dp.mono le d v h.dp, h.ok⟩
theorem ShA.mono (le : Same F F') (h : ShA K F vs ds) : ShA K F' vs ds := ⟨Dp.monoA le ds vs h.dp, h.ok⟩
theorem canAll_iff : ∀ {ds : List D}, PyData.canLayAll0 ds = true ↔ ∀ d ∈ ds, d.canLay0 = true
  | [] => by simp [PyData.canLayAll0]
  | d :: ds => by simp [PyData.canLayAll0, canAll_iff (ds := ds)]
theorem ShA.nil : ShA K F [] [] := ⟨.nil, by rfl⟩
theorem ShA.cons (h : Sh K F v d) (t : ShA K F vs ds) : ShA K F (v :: vs) (d :: ds) := ⟨.cons h.dp t.dp, by simp [PyData.canLayAll0, h.ok, t.ok]⟩
theorem ShA.len (h : ShA K F vs ds) : vs.length = ds.length := DpAll.len h.dp
theorem ShA.at {i : Nat} (h : ShA K F vs ds) (e : ds[i]? = some d) : ∃ v, vs[i]? = some v ∧ Sh K F v d := by
  obtain ⟨v, h1, h2⟩ := DpAll.at h.dp e
  exact ⟨v, h1, h2, canAll_iff.mp h.ok _ (List.mem_of_getElem? e)⟩
theorem ShA.app (h : ShA K F vs ds) (t : ShA K F ws es) : ShA K F (vs ++ ws) (ds ++ es) := ⟨DpAll.app h.dp t.dp, canAll_iff.mpr fun d hd => (List.mem_append.mp hd).elim (canAll_iff.mp h.ok d) (canAll_iff.mp t.ok d)⟩
theorem ShA.tak (n : Nat) (h : ShA K F vs ds) : ShA K F (vs.take n) (ds.take n) := ⟨DpAll.tak n h.dp, canAll_iff.mpr fun d hd => canAll_iff.mp h.ok d (List.mem_of_mem_take hd)⟩
theorem ShA.drp (n : Nat) (h : ShA K F vs ds) : ShA K F (vs.drop n) (ds.drop n) := ⟨DpAll.drp n h.dp, canAll_iff.mpr fun d hd => canAll_iff.mp h.ok d (List.mem_of_mem_drop hd)⟩
theorem ShA.set' (i : Nat) (h : ShA K F vs ds) (q : Sh K F v d) : ShA K F (vs.set i v) (ds.set i d) := ⟨DpAll.upd' i h.dp q.dp, canAll_iff.mpr fun e he => (List.mem_or_eq_of_mem_set he).elim (canAll_iff.mp h.ok e) fun z => z ▸ q.ok⟩
theorem ShA.rev (h : ShA K F vs ds) : ShA K F vs.reverse ds.reverse := ⟨DpAll.rev h.dp, canAll_iff.mpr fun d hd => canAll_iff.mp h.ok d (List.mem_reverse.mp hd)⟩
theorem ShA.one (h : Sh K F v d) : ShA K F [v] [d] := .cons h .nil
theorem ShA.rep (h : Sh K F v d) (n : Nat) : ShA K F (List.replicate n v) (List.replicate n d) := ⟨DpAll.rep h.dp n, canAll_iff.mpr fun e he => (List.mem_replicate.mp he).2 ▸ h.ok⟩
theorem Sh.lst {a : Addr} (h : SqL K F a vs) (t : ShA K F vs ds) : Sh K F (.ref a) (.list ds) := ⟨.lst h t.dp, by simp [PyData.canLay0, t.ok]⟩
theorem Sh.tup {a : Addr} (h : SqT K F a vs) (t : ShA K F vs ds) : Sh K F (.ref a) (.tuple ds) := ⟨.tup h t.dp, by simp [PyData.canLay0, t.ok]⟩
theorem Sh.lst_inv (h : Sh K F v (.list ds)) : ∃ a vs, v = .ref a ∧ SqL K F a vs ∧ ShA K F vs ds := by
  obtain ⟨h, o⟩ := h
  cases h with
  | lst hs ha => exact ⟨_, _, rfl, hs, ha, by simpa [PyData.canLay0] using o⟩
theorem Sh.tup_inv (h : Sh K F v (.tuple ds)) : ∃ a vs, v = .ref a ∧ SqT K F a vs ∧ ShA K F vs ds := by
  obtain ⟨h, o⟩ := h
  cases h with
  | tup hs ha => exact ⟨_, _, rfl, hs, ha, by simpa [PyData.canLay0] using o⟩
theorem Sh.int_inv {i : Int} (h : Sh K F v (.int i)) : v = .int i := by cases h.dp; rfl
theorem Sh.bl_inv {b : Bool} (h : Sh K F v (.bool b)) : v = .bl b := by cases h.dp; rfl
theorem Sh.str_inv {x : Str} (h : Sh K F v (.str x)) : v = .str x := by cases h.dp; rfl
theorem Sh.non_inv (h : Sh K F v .none) : v = .non := by cases h.dp; rfl
theorem Sh.int {i : Int} : Sh K F (.int i) (.int i) := ⟨.int i, rfl⟩
theorem Sh.bl {b : Bool} : Sh K F (.bl b) (.bool b) := ⟨.bl b, rfl⟩
theorem Sh.non : Sh K F .non .none := ⟨.non, rfl⟩
theorem Sh.str {x : Str} (h : PyData.strOk x = true) : Sh K F (.str x) (.str x) := ⟨.str x, by simp [PyData.canLay0, h]⟩
end

abbrev Kls := Str → Option Addr
def FldOk (K : PySem.W.Frag) (F : Hp) : List (Str × V) → List (Str × D) → Prop
  | [], [] => True
  | (f, v) :: r, (g, d) :: t => f = g ∧ Sh K F v d ∧ FldOk K F r t
  | _, _ => False
def CellOk (K : PySem.W.Frag) (C : Kls) (F H : Hp) (a : Addr) : Cell → Prop
  | .lst ds => ∃ vs, H a = some (.lst vs) ∧ ShA K F vs ds
  | .ins c fs => ∃ k dx vs, C c = some k ∧ H a = some (.ins k dx vs) ∧ FldOk K F vs fs
def SlOk (K : PySem.W.Frag) (φ : List Addr) (F G H : Hp) (v : Option V) : Sl → Prop
  | .un => True
  | .dat d => ∃ x, v = some x ∧ Sh K F x d
  | .own ds => ∃ a vs, v = some (.ref a) ∧ H a = some (.lst vs) ∧ ShA K F vs ds ∧ F a = none ∧ G a = none ∧ a ∉ φ
  | .hnd n => ∃ a, v = some (.ref a) ∧ φ[n]? = some a
def OwnAt (e : List Sl) (σ : St) (i : Nat) (a : Addr) : Prop := (∃ ds, e[i]? = some (.own ds)) ∧ σ[i]? = some (some (.ref a))

def tbK (x : Str) : Bool := x.cps.toList.head? == some 64
structure TbAt (F G H : Hp) (P : Addr) : Prop where
  tb : ∃ ps : Array Value, H P = some (.tbl ps) ∧ TriplesOk ps.toList
  f : F P = none
  g : G P = none
theorem TbAt.grow {F G H H' : Hp} {P : Addr} (h : TbAt F G H P) (le : Same H H') : TbAt F G H' P := ⟨let ⟨ps, e, t⟩ := h.tb; ⟨ps, le _ _ e, t⟩, h.f, h.g⟩
theorem TbAt.neL {F G H : Hp} {P a : Addr} {vs : List V} (h : TbAt F G H P) (e : H a = some (.lst vs)) : P ≠ a := by
  rintro rfl
  obtain ⟨ps, q, _⟩ := h.tb
  rw [e] at q; cases q
theorem TbAt.neT {F G H : Hp} {P a : Addr} {vs : List V} (h : TbAt F G H P) (e : H a = some (.tup vs)) : P ≠ a := by
  rintro rfl
  obtain ⟨ps, q, _⟩ := h.tb
  rw [e] at q; cases q
theorem TbAt.neI {F G H : Hp} {P a k dx : Addr} {vs : List (Str × V)} (h : TbAt F G H P) (e : H a = some (.ins k dx vs)) : P ≠ a := by
  rintro rfl
  obtain ⟨ps, q, _⟩ := h.tb
  rw [e] at q; cases q
theorem TbAt.updH {F G H : Hp} {P a : Addr} {o : HO} (h : TbAt F G H P) (n : P ≠ a) : TbAt F G (upd H a o) P := ⟨let ⟨ps, e, t⟩ := h.tb; ⟨ps, by rw [upd_ne n]; exact e, t⟩, h.f, h.g⟩
theorem TbAt.updF {F G H : Hp} {P a : Addr} {o : HO} (h : TbAt F G H P) (n : P ≠ a) : TbAt (upd F a o) G H P := ⟨h.tb, by rw [upd_ne n]; exact h.f, h.g⟩
theorem TbAt.updG {F G H : Hp} {P a : Addr} {o : HO} (h : TbAt F G H P) (n : P ≠ a) : TbAt F (upd G a o) H P := ⟨h.tb, h.f, by rw [upd_ne n]; exact h.g⟩
structure Ml (K : PySem.W.Frag) (C : Kls) (F : Hp) (φ : List Addr) (G : Hp) (m : List Cell) (H : Hp) : Prop where
  sub : Same F H
  gs : Same G H
  gF : ∀ b u, G b = some u → F b = none
  gφ : ∀ b u, G b = some u → b ∉ φ
  fφ : ∀ b ∈ φ, F b = none
  nd : φ.Nodup
  mlen : φ.length = m.length
  cell : ∀ (n : Nat) (a : Addr) (c : Cell), φ[n]? = some a → m[n]? = some c → CellOk K C F H a c
  tab : ∀ (x : Str) (P : Addr), tbK x = true → C x = some P → TbAt F G H P
structure Rl (K : PySem.W.Frag) (C : Kls) (F : Hp) (φ : List Addr) (G : Hp) (s : S) (σ : St) (H : Hp) : Prop extends Ml K C F φ G s.mem H where
  len : σ.length = s.env.length
  slot : ∀ (i : Nat) (sl : Sl), s.env[i]? = some sl → SlOk K φ F G H ((σ[i]?).join) sl
  apart : ∀ i j a, OwnAt s.env σ i a → OwnAt s.env σ j a → i = j

def VlOk (K : PySem.W.Frag) (F : Hp) (φ : List Addr) (G : Hp) (e : List Sl) (σ : St) (H : Hp) (v : V) : Vl → Prop
  | .dat d => Sh K F v d
  | .fr ds => ∃ p vs, v = .ref p ∧ H p = some (.lst vs) ∧ ShA K F vs ds ∧ F p = none ∧ G p = none ∧ p ∉ φ ∧ ∀ i, ¬ OwnAt e σ i p
  | .hnd n => ∃ a, v = .ref a ∧ φ[n]? = some a

abbrev Wish := Str → List (Str × D) → St → Hp → Prop
def OutE (K : PySem.W.Frag) (C : Kls) (W : WX) (F : Hp) (φ : List Addr) (G : Hp) (σ : St) (Q : VK) : Rs Vl → Prop
  | .ok r s' => ∀ F' φ' H' v, Same F F' → φ <+: φ' → Rl K C F' φ' G s' σ H' → VlOk K F' φ' G s'.env σ H' v r → Q v H'
  | .exc c fs s' => ∀ F' φ' H' k d vs, Same F F' → φ <+: φ' → Rl K C F' φ' G s' σ H' → C c = some k → H' d = some (.xd vs) → FldOk K F' vs fs → W (.ref k) (some d) σ H'
  | .no => False
def lif (K : PySem.W.Frag) (C : Kls) (W : WX) (f : Mo Vl) : TE := fun σ H Q => ∃ F φ G s, Rl K C F φ G s σ H ∧ OutE K C W F φ G σ Q (f s)
end Gq

namespace Gq
open PySem PySem.Spec L2

theorem PEwk {X : Cx} {e : Expr} {t t' : TE} (h : PE X e t) (w : ∀ σ H Q, t' σ H Q → t σ H Q) : PE X e t' := ⟨fun pins s σ H Q I q => h.run pins s σ H Q I (w σ H Q q)⟩
theorem PTwk {X : Cx} {e : Expr} {t t' : TT} (h : PT X e t) (w : ∀ σ H Q, t' σ H Q → t σ H Q) : PT X e t' := ⟨fun pins s σ H Q I q => h.run pins s σ H Q I (w σ H Q q)⟩
theorem PSwk {X : Cx} {e : Stmt} {t t' : TS} (h : PS X e t) (w : ∀ D σ H, t' D σ H → t D σ H) : PS X e t' := ⟨fun pins s σ H D I q => h.run pins s σ H D I (w D σ H q)⟩
theorem PSswk {X : Cx} {e : List Stmt} {t t' : TS} (h : PSs X e t) (w : ∀ D σ H, t' D σ H → t D σ H) : PSs X e t' := ⟨fun pins s σ H D I q => h.run pins s σ H D I (w D σ H q)⟩
theorem PAwk {X : Cx} {e : List Expr} {t t' : TA} (h : PA X e t) (w : ∀ σ H Q, t' σ H Q → t σ H Q) : PA X e t' := ⟨fun pos pins s σ H Q I q => h.run pos pins s σ H Q I (w σ H Q q)⟩

section
variable {K : PySem.W.Frag} {C : Kls} {W : WX} {F F' : Hp} {φ φ' : List Addr} {G G' : Hp} {s s' : S} {σ : L2.St} {H H' : Hp} {m : List Cell}

theorem Same.seqT {a : Addr} {xs : List V} (e : Same H H') (h : SqT K H a xs) : SqT K H' a xs := by
  rcases h with (h | ⟨o, h⟩) | h
  · exact .inl (.inl (e _ _ h))
  · exact .inl (.inr ⟨o, e _ _ h⟩)
  · exact .inr h
theorem FldOk.mono (le : Same F F') : ∀ {vs : List (Str × V)} {fs : List (Str × D)}, FldOk K F vs fs → FldOk K F' vs fs
  | [], [], _ => trivial
  | (_, _) :: _, (_, _) :: _, ⟨e, h, t⟩ => ⟨e, h.mono le, FldOk.mono le t⟩
  | [], _ :: _, h => h.elim
  | _ :: _, [], h => h.elim
theorem CellOk.monoF {a : Addr} {c : Cell} (le : Same F F') (h : CellOk K C F H a c) : CellOk K C F' H a c := by
  cases c with
  | lst ds => obtain ⟨vs, e, t⟩ := h; exact ⟨vs, e, t.mono le⟩
  | ins c fs => obtain ⟨k, dx, vs, e1, e2, t⟩ := h; exact ⟨k, dx, vs, e1, e2, FldOk.mono le t⟩
theorem pre_get {n : Nat} {a : Addr} (p : φ <+: φ') (h : φ[n]? = some a) : φ'[n]? = some a := by
  obtain ⟨t, rfl⟩ := p
  have : n < φ.length := (List.getElem?_eq_some_iff.mp h).1
  rw [List.getElem?_append_left this]; exact h

theorem Ml.weak (h : Ml K C F φ G' m H) (le : Same G G') : Ml K C F φ G m H :=
  ⟨h.sub, fun b u e => h.gs b u (le b u e), fun b u e => h.gF b u (le b u e), fun b u e => h.gφ b u (le b u e), h.fφ, h.nd, h.mlen, h.cell, fun x P k e => let t := h.tab x P k e; ⟨t.tb, t.f, le.free t.g⟩⟩
theorem none_of_same {H H' : Hp} {a : Addr} (le : Same H H') (h : H' a = none) : H a = none := le.free h
theorem Rl.weak (h : Rl K C F φ G' s σ H) (le : Same G G') : Rl K C F φ G s σ H := by
  refine ⟨h.toMl.weak le, h.len, fun i sl e => ?_, h.apart⟩
  have q := h.slot i sl e
  cases sl with
  | un => trivial
  | dat d => exact q
  | own ds => obtain ⟨a, vs, e1, e2, e3, e4, e5, e6⟩ := q; exact ⟨a, vs, e1, e2, e3, e4, none_of_same le e5, e6⟩
  | hnd n => exact q
theorem VlOk.weak {e : List Sl} {v : V} {r : Vl} (h : VlOk K F φ G' e σ H v r) (le : Same G G') : VlOk K F φ G e σ H v r := by
  cases r with
  | dat d => exact h
  | fr ds => obtain ⟨p, vs, e1, e2, e3, e4, e5, e6, e7⟩ := h; exact ⟨p, vs, e1, e2, e3, e4, none_of_same le e5, e6, e7⟩
  | hnd n => exact h

def Opn (K : PySem.W.Frag) (F H : Hp) (v : V) (d : D) : Prop := Sh K F v d ∨ ∃ p vs ds, v = .ref p ∧ d = .list ds ∧ H p = some (.lst vs) ∧ ShA K F vs ds
theorem Opn.sh {v : V} {d : D} (h : Opn K F H v d) (le : Same F H) : Sh K H v d := by
  rcases h with h | ⟨p, vs, ds, rfl, rfl, e, t⟩
  · exact h.mono le
  · exact .lst (SqL.of e) (t.mono le)
theorem Opn.lst {v : V} {ds : List D} (h : Opn K F H v (.list ds)) (le : Same F H) : ∃ a vs, v = .ref a ∧ SqL K H a vs ∧ ShA K F vs ds := by
  rcases h with h | ⟨p, vs, es, rfl, e0, e, t⟩
  · obtain ⟨a, vs, rfl, hs, ha⟩ := h.lst_inv
    exact ⟨a, vs, rfl, le.seq hs, ha⟩
  · cases e0
    exact ⟨p, vs, rfl, SqL.of e, t⟩
theorem Opn.tup {v : V} {ds : List D} (h : Opn K F H v (.tuple ds)) : ∃ a vs, v = .ref a ∧ SqT K F a vs ∧ ShA K F vs ds := by
  rcases h with h | ⟨p, vs, es, rfl, e0, e, t⟩
  · exact h.tup_inv
  · cases e0
theorem Opn.dat {v : V} {d : D} (h : Opn K F H v d) (hd : ∀ ds, d ≠ .list ds) : Sh K F v d := by
  rcases h with h | ⟨p, vs, es, rfl, e0, e, t⟩
  · exact h
  · exact absurd e0 (hd _)

theorem Rl.freeze {p : Addr} {vs : List V} {ds : List D} (h : Rl K C F φ G s σ H) (e : H p = some (.lst vs)) (t : ShA K F vs ds) (hF : F p = none) (hG : G p = none) (hφ : p ∉ φ) (ho : ∀ i, ¬ OwnAt s.env σ i p) :
    Rl K C (upd F p (.lst vs)) φ G s σ H ∧ Same F (upd F p (.lst vs)) ∧ Sh K (upd F p (.lst vs)) (.ref p) (.list ds) := by
  have le : Same F (upd F p (.lst vs)) := fun b u q => by rw [upd_ne (ne_of_none q hF)]; exact q
  refine ⟨⟨⟨fun b u q => ?_, h.gs, fun b u q => ?_, h.gφ, fun b hb => ?_, h.nd, h.mlen, fun n a c e1 e2 => (h.cell n a c e1 e2).monoF le, fun x P k q => (h.tab x P k q).updF ((h.tab x P k q).neL e)⟩, h.len, fun i sl q => ?_, h.apart⟩, le, .lst (SqL.of upd_same) (t.mono le)⟩
  · by_cases hb : b = p
    · subst hb; rw [upd_same] at q; cases q; exact e
    · rw [upd_ne hb] at q; exact h.sub b u q
  · have hb : b ≠ p := fun z => by subst z; rw [hG] at q; cases q
    rw [upd_ne hb]; exact h.gF b u q
  · have hb' : b ≠ p := fun z => hφ (z ▸ hb)
    rw [upd_ne hb']; exact h.fφ b hb
  · have z := h.slot i sl q
    cases sl with
    | un => trivial
    | dat d => obtain ⟨x, e1, e2⟩ := z; exact ⟨x, e1, e2.mono le⟩
    | own es =>
      obtain ⟨a, ws, e1, e2, e3, e4, e5, e6⟩ := z
      have ha : a ≠ p := by
        rintro rfl
        refine ho i ⟨⟨es, q⟩, ?_⟩
        cases hσ : σ[i]? with
        | none => rw [hσ] at e1; cases e1
        | some o => rw [hσ] at e1; cases e1; rfl
      exact ⟨a, ws, e1, e2, e3.mono le, by rw [upd_ne ha]; exact e4, e5, e6⟩
    | hnd n => exact z
def frz : Vl → Vl
  | .fr ds => .dat (.list ds)
  | r => r
def noFr : Vl → Prop
  | .fr _ => False
  | _ => True
theorem Rl.frz {v : V} {r : Vl} (h : Rl K C F φ G s σ H) (q : VlOk K F φ G s.env σ H v r) : ∃ F1, Same F F1 ∧ Rl K C F1 φ G s σ H ∧ VlOk K F1 φ G s.env σ H v (frz r) := by
  cases r with
  | dat d => exact ⟨F, Same.refl F, h, q⟩
  | fr ds =>
    obtain ⟨p, vs, rfl, e2, e3, e4, e5, e6, e7⟩ := q
    obtain ⟨h1, h2, h3⟩ := h.freeze e2 e3 e4 e5 e6 e7
    exact ⟨_, h2, h1, h3⟩
  | hnd n => exact ⟨F, Same.refl F, h, q⟩
theorem VlOk.last {e e' : List Sl} {v : V} {r : Vl} (h : VlOk K F φ G e σ H v (Gq.frz r)) (le : Same F F') (lp : φ <+: φ') : VlOk K F' φ' G' e' σ H' v (Gq.frz r) := by
  cases r with
  | dat d => exact Sh.mono le h
  | fr ds => exact Sh.mono le h
  | hnd n => obtain ⟨a, e1, e2⟩ := h; exact ⟨a, e1, pre_get lp e2⟩

theorem OutE.weakQ {r : Rs Vl} {Q Q' : VK} (h : OutE K C W F φ G σ Q r) (w : ∀ v H, Q v H → Q' v H) : OutE K C W F φ G σ Q' r := by
  cases r with
  | ok r s' => exact fun F' φ' H' v l1 l2 R o => w _ _ (h F' φ' H' v l1 l2 R o)
  | exc c fs s' => exact h
  | no => exact h
theorem OutE.later {r : Rs Vl} {Q : VK} (h : OutE K C W F φ G σ Q r) (le : Same F F') (lp : φ <+: φ') : OutE K C W F' φ' G σ Q r := by
  cases r with
  | ok r s' => exact fun F2 φ2 H2 v l1 l2 R o => h F2 φ2 H2 v (le.trans l1) (lp.trans l2) R o
  | exc c fs s' => exact fun F2 φ2 H2 k d vs l1 l2 R => h F2 φ2 H2 k d vs (le.trans l1) (lp.trans l2) R
  | no => exact h
theorem OutE.more {r : Rs Vl} {Q : VK} (h : OutE K C W F φ G σ Q r) (le : Same G G') : OutE K C W F φ G' σ Q r := by
  cases r with
  | ok r s' => exact fun F2 φ2 H2 v l1 l2 R o => h F2 φ2 H2 v l1 l2 (R.weak le) (o.weak le)
  | exc c fs s' => exact fun F2 φ2 H2 k d vs l1 l2 R => h F2 φ2 H2 k d vs l1 l2 (R.weak le)
  | no => exact h
theorem lif_bind {f : Mo Vl} {g : Vl → Mo Vl} {Q : VK} (h : Rl K C F φ G s σ H) (o : OutE K C W F φ G σ Q ((f s).bind g)) {R : VK}
    (k : ∀ F' φ' H' v r s', Same F F' → φ <+: φ' → Rl K C F' φ' G s' σ H' → VlOk K F' φ' G s'.env σ H' v r → OutE K C W F' φ' G σ Q (g r s') → R v H') : lif K C W f σ H R := by
  refine ⟨F, φ, G, s, h, ?_⟩
  cases e : f s with
  | ok r s' =>
    rw [e] at o
    exact fun F' φ' H' v l1 l2 R1 o1 => k F' φ' H' v r s' l1 l2 R1 o1 (OutE.later (r := g r s') o l1 l2)
  | exc c fs s' => rw [e] at o; exact o
  | no => rw [e] at o; exact o.elim
end
end Gq

namespace Gq
open PySem PySem.Spec L2

section
variable {K : PySem.W.Frag} {C : Kls} {W : WX} {F F' : Hp} {φ φ' : List Addr} {G G' : Hp} {s s' : S} {σ : L2.St} {H H' : Hp} {m : List Cell}

theorem Ml.hasH (h : Ml K C F φ G m H) {a : Addr} (ha : a ∈ φ) : H a ≠ none := by
  obtain ⟨n, hn, e⟩ := List.getElem_of_mem ha
  have hm : n < m.length := by rw [← h.mlen]; exact hn
  have q := h.cell n a m[n] (by rw [List.getElem?_eq_getElem hn, e]) (List.getElem?_eq_getElem hm)
  cases hc : m[n] with
  | lst ds => rw [hc] at q; obtain ⟨_, q, _⟩ := q; rw [q]; exact fun z => nomatch z
  | ins c fs => rw [hc] at q; obtain ⟨_, _, _, _, q, _⟩ := q; rw [q]; exact fun z => nomatch z
theorem Ml.newφ (h : Ml K C F φ G m H) {p : Addr} (hp : H p = none) : p ∉ φ := fun z => h.hasH z hp
theorem Ml.newF (h : Ml K C F φ G m H) {p : Addr} (hp : H p = none) : F p = none := none_of_same h.sub hp
theorem Ml.newG (h : Ml K C F φ G m H) {p : Addr} (hp : H p = none) : G p = none := none_of_same h.gs hp
theorem same_new {H : Hp} {p : Addr} (h : H p = none) (o : HO) : Same H (upd H p o) := fun b u q => by rw [upd_ne (ne_of_none q h)]; exact q
theorem CellOk.monoH {a : Addr} {c : Cell} (le : Same H H') (h : CellOk K C F H a c) : CellOk K C F H' a c := by
  cases c with
  | lst ds => obtain ⟨vs, e, t⟩ := h; exact ⟨vs, le _ _ e, t⟩
  | ins c fs => obtain ⟨k, dx, vs, e1, e2, t⟩ := h; exact ⟨k, dx, vs, e1, le _ _ e2, t⟩
theorem Ml.grow (h : Ml K C F φ G m H) (le : Same H H') : Ml K C F φ G m H' :=
  ⟨h.sub.trans le, h.gs.trans le, h.gF, h.gφ, h.fφ, h.nd, h.mlen, fun n a c e1 e2 => (h.cell n a c e1 e2).monoH le, fun x P k e => (h.tab x P k e).grow le⟩
theorem SlOk.grow {v : Option V} {sl : Sl} (le : Same H H') (h : SlOk K φ F G H v sl) : SlOk K φ F G H' v sl := by
  cases sl with
  | un => trivial
  | dat d => exact h
  | own ds => obtain ⟨a, vs, e1, e2, e3⟩ := h; exact ⟨a, vs, e1, le _ _ e2, e3⟩
  | hnd n => exact h
theorem Rl.grow (h : Rl K C F φ G s σ H) (le : Same H H') : Rl K C F φ G s σ H' :=
  ⟨h.toMl.grow le, h.len, fun i sl e => (h.slot i sl e).grow le, h.apart⟩
theorem OwnAt.hasH (h : Rl K C F φ G s σ H) {i : Nat} {a : Addr} (o : OwnAt s.env σ i a) : ∃ vs, H a = some (.lst vs) := by
  obtain ⟨⟨ds, e⟩, e2⟩ := o
  obtain ⟨b, vs, h1, h2, _⟩ := h.slot i _ e
  rw [e2] at h1
  cases h1
  exact ⟨vs, h2⟩
theorem Rl.noOwn (h : Rl K C F φ G s σ H) {p : Addr} (hp : H p = none) : ∀ i, ¬ OwnAt s.env σ i p := fun i o => by
  obtain ⟨vs, e⟩ := OwnAt.hasH h o
  rw [hp] at e; cases e
theorem Rl.newL {p : Addr} {vs : List V} {ds : List D} (h : Rl K C F φ G s σ H) (hp : H p = none) (t : ShA K F vs ds) :
    Rl K C F φ G s σ (upd H p (.lst vs)) ∧ VlOk K F φ G s.env σ (upd H p (.lst vs)) (.ref p) (.fr ds) :=
  ⟨h.grow (same_new hp _), p, vs, rfl, upd_same, t, h.newF hp, h.newG hp, h.newφ hp, h.noOwn hp⟩
theorem Rl.keepF {p : Addr} {o : HO} (h : Rl K C F φ G s σ H) (e : H p = some o) (hF : F p = none) (hG : G p = none) (hφ : p ∉ φ) (ho : ∀ i, ¬ OwnAt s.env σ i p) (hno : ∀ ps, o ≠ .tbl ps := by intro _ z; cases z) : Rl K C (upd F p o) φ G s σ H ∧ Same F (upd F p o) := by
  have le : Same F (upd F p o) := same_new hF o
  refine ⟨⟨⟨fun b u q => ?_, h.gs, fun b u q => ?_, h.gφ, fun b hb => ?_, h.nd, h.mlen, fun n a c e1 e2 => (h.cell n a c e1 e2).monoF le, fun x P k q => (h.tab x P k q).updF (fun z => by subst z; obtain ⟨ps, w, _⟩ := (h.tab x _ k q).tb; rw [e] at w; cases w; exact hno _ rfl)⟩, h.len, fun i sl q => ?_, h.apart⟩, le⟩
  · by_cases hb : b = p
    · subst hb; rw [upd_same] at q; cases q; exact e
    · rw [upd_ne hb] at q; exact h.sub b u q
  · have hb : b ≠ p := fun z => by subst z; rw [hG] at q; cases q
    rw [upd_ne hb]; exact h.gF b u q
  · have hb' : b ≠ p := fun z => hφ (z ▸ hb)
    rw [upd_ne hb']; exact h.fφ b hb
  · have z := h.slot i sl q
    cases sl with
    | un => trivial
    | dat d => obtain ⟨x, e1, e2⟩ := z; exact ⟨x, e1, e2.mono le⟩
    | own es =>
      obtain ⟨a, ws, e1, e2, e3, e4, e5, e6⟩ := z
      have ha : a ≠ p := by
        rintro rfl
        refine ho i ⟨⟨es, q⟩, ?_⟩
        cases hσ : σ[i]? with
        | none => rw [hσ] at e1; cases e1
        | some o => rw [hσ] at e1; cases e1; rfl
      exact ⟨a, ws, e1, e2, e3.mono le, by rw [upd_ne ha]; exact e4, e5, e6⟩
    | hnd n => exact z
theorem Rl.newT {p : Addr} {vs : List V} {ds : List D} (h : Rl K C F φ G s σ H) (hp : H p = none) (t : ShA K F vs ds) :
    Same F (upd F p (.tup vs)) ∧ Rl K C (upd F p (.tup vs)) φ G s σ (upd H p (.tup vs)) ∧ Sh K (upd F p (.tup vs)) (.ref p) (.tuple ds) := by
  have le := same_new (h.newF hp) (.tup vs)
  obtain ⟨h1, _⟩ := (h.grow (same_new hp (.tup vs))).keepF upd_same (h.newF hp) (h.newG hp) (h.newφ hp) (by
    intro i o
    exact h.noOwn hp i o)
  exact ⟨le, h1, .tup (SqT.of upd_same) (t.mono le)⟩

def OpS (K : PySem.W.Frag) (C : Kls) (f : D → D → Option Vl) (r : R2) : Prop :=
  ∀ (F : Hp) (φ : List Addr) (G : Hp) (s : S) (σ : L2.St) (H : Hp) (x y : V) (d e : D) (z : Vl) (Q : VK), Rl K C F φ G s σ H → Opn K F H x d → Opn K F H y e → f d e = some z →
    (∀ F' φ' H' v, Same F F' → φ <+: φ' → Rl K C F' φ' G s σ H' → VlOk K F' φ' G s.env σ H' v z → Q v H') → r x y H Q
end
def asD : Vl → Option D
  | .dat d => some d
  | .fr ds => some (.list ds)
  | .hnd _ => none
def peek (i : Nat) : Mo D := fun s => match s.env[i]? with
  | some (.dat d) => .ok d s
  | some (.own ds) => .ok (.list ds) s
  | some (.hnd n) => match s.mem[n]? with
    | some (.lst ds) => .ok (.list ds) s
    | _ => .no
  | _ => .no
def opd (l : Option Nat) (m : Mo Vl) : Mo D := match l with
  | some i => peek i
  | none => bnd m fun r => opt (asD r)
def op2 (la : Option Nat) (ma : Mo Vl) (lb : Option Nat) (mb : Mo Vl) (f : D → D → Option Vl) : Mo Vl := match la with
  | some i => bnd (peek i) fun _ => bnd (opd lb mb) fun y => bnd (peek i) fun x => opt (f x y)
  | none => bnd ma fun r => bnd (opt (asD r)) fun x => bnd (opd lb mb) fun y => opt (f x y)
def op1 (la : Option Nat) (ma : Mo Vl) (f : D → Option Vl) : Mo Vl := bnd (opd la ma) fun x => opt (f x)
def tOpd (K : PySem.W.Frag) (C : Kls) (W : WX) (l : Option Nat) (m : Mo Vl) : TE := match l with
  | some i => tVar i
  | none => lif K C W m

section
variable {K : PySem.W.Frag} {C : Kls} {W : WX} {F F' : Hp} {φ φ' : List Addr} {G G' : Hp} {s s' : S} {σ : L2.St} {H H' : Hp} {m : List Cell}
theorem peek_ok {i : Nat} {d : D} (h : Rl K C F φ G s σ H) (e : peek i s = .ok d s') : s' = s ∧ ∃ v, σ[i]? = some (some v) ∧ Opn K F H v d := by
  unfold peek at e
  cases q : s.env[i]? with
  | none => rw [q] at e; cases e
  | some sl =>
    rw [q] at e
    have z := h.slot i sl q
    cases sl with
    | un => cases e
    | hnd n =>
      obtain ⟨a, e1, e2⟩ := z
      dsimp only at e
      cases q2 : s.mem[n]? with
      | none => rw [q2] at e; cases e
      | some c =>
        rw [q2] at e
        have w := h.cell n a c e2 q2
        cases c with
        | ins _ _ => cases e
        | lst ds =>
          cases e
          obtain ⟨vs, w1, w2⟩ := w
          refine ⟨rfl, .ref a, ?_, .inr ⟨a, vs, ds, rfl, rfl, w1, w2⟩⟩
          cases hσ : σ[i]? with
          | none => rw [hσ] at e1; cases e1
          | some o => rw [hσ] at e1; cases e1; rfl
    | dat d' =>
      cases e
      obtain ⟨x, e1, e2⟩ := z
      refine ⟨rfl, x, ?_, .inl e2⟩
      cases hσ : σ[i]? with
      | none => rw [hσ] at e1; cases e1
      | some o => rw [hσ] at e1; cases e1; rfl
    | own ds =>
      cases e
      obtain ⟨a, vs, e1, e2, e3, _⟩ := z
      refine ⟨rfl, .ref a, ?_, .inr ⟨a, vs, ds, rfl, rfl, e2, e3⟩⟩
      cases hσ : σ[i]? with
      | none => rw [hσ] at e1; cases e1
      | some o => rw [hσ] at e1; cases e1; rfl
theorem peek_cases (i : Nat) (s : S) : (∃ d, peek i s = .ok d s) ∨ peek i s = .no := by
  unfold peek
  split
  · exact .inl ⟨_, rfl⟩
  · exact .inl ⟨_, rfl⟩
  · split
    · exact .inl ⟨_, rfl⟩
    · exact .inr rfl
  · exact .inr rfl
theorem opd_last {l : Option Nat} {mb : Mo Vl} {g : D → Mo Vl} {Q R : VK} (h : Rl K C F φ G s σ H) (o : OutE K C W F φ G σ Q (bnd (opd l mb) g s))
    (k : ∀ F' φ' H' y e s', Same F F' → φ <+: φ' → Rl K C F' φ' G s' σ H' → Opn K F' H' y e → OutE K C W F' φ' G σ Q (g e s') → R y H') : tOpd K C W l mb σ H R := by
  cases l with
  | some i =>
    rcases peek_cases i s with ⟨d, e⟩ | e
    · obtain ⟨_, v, hv, ov⟩ := peek_ok h e
      refine ⟨v, hv, k F φ H v d s (Same.refl F) (List.prefix_refl φ) h ov ?_⟩
      have : bnd (opd (some i) mb) g s = g d s := by show (peek i s).bind g = _; rw [e]; rfl
      rwa [this] at o
    · have : bnd (opd (some i) mb) g s = .no := by show (peek i s).bind g = _; rw [e]; rfl
      rw [this] at o; exact o.elim
  | none =>
    refine lif_bind (f := mb) (g := fun r => bnd (opt (asD r)) g) h (Q := Q) ?_ (fun F' φ' H' v r s' l1 l2 R1 o1 q => ?_)
    · have : bnd (opd none mb) g s = (mb s).bind fun r => bnd (opt (asD r)) g := by
        show ((mb s).bind fun r => opt (asD r)).bind g = _
        cases mb s <;> rfl
      rwa [this] at o
    · cases r with
      | dat d => exact k F' φ' H' v d s' l1 l2 R1 (.inl o1) q
      | fr ds =>
        obtain ⟨p, vs, rfl, e2, e3, _⟩ := o1
        exact k F' φ' H' _ (.list ds) s' l1 l2 R1 (.inr ⟨p, vs, ds, rfl, rfl, e2, e3⟩) q
      | hnd n => exact q.elim
theorem bnd_ok {α β : Type} {f : Mo α} {g : α → Mo β} {a : α} {s s' : S} (e : f s = .ok a s') : bnd f g s = g a s' := by show (f s).bind g = _; rw [e]; rfl
theorem bnd_no {α β : Type} {f : Mo α} {g : α → Mo β} {s : S} (e : f s = .no) : bnd f g s = .no := by show (f s).bind g = _; rw [e]; rfl
theorem opt_some {α : Type} {o : Option α} {a : α} {s : S} (e : o = some a) : opt o s = .ok a s := by subst e; rfl
theorem opt_none {α : Type} {o : Option α} {s : S} (e : o = none) : opt o s = .no := by subst e; rfl
theorem op2_ok {la lb : Option Nat} {ma mb : Mo Vl} {f : D → D → Option Vl} {r : R2} {Q : VK} (ho : OpS K C f r) (h : Rl K C F φ G s σ H) (o : OutE K C W F φ G σ Q (op2 la ma lb mb f s)) :
    tOp r (tOpd K C W la ma) (tOpd K C W lb mb) σ H Q := by
  -- the operator, both operands there
  have fin : ∀ {F φ G s H x d y e} (h : Rl K C F φ G s σ H), Opn K F H x d → Opn K F H y e → OutE K C W F φ G σ Q (opt (f d e) s) → r x y H Q := fun {F φ G s H x d y e} h ox oy o => by
    cases q : f d e with
    | none => rw [opt_none q] at o; exact o.elim
    | some z =>
      rw [opt_some q] at o
      exact ho F φ G s σ H x y d e z Q h ox oy q o
  cases la with
  | some i =>
    rcases peek_cases i s with ⟨d0, e0⟩ | e0
    · obtain ⟨_, v, hv, ov⟩ := peek_ok h e0
      have o' : OutE K C W F φ G σ Q (bnd (opd lb mb) (fun y => bnd (peek i) fun x => opt (f x y)) s) := by
        have : op2 (some i) ma lb mb f s = bnd (opd lb mb) (fun y => bnd (peek i) fun x => opt (f x y)) s := bnd_ok e0
        rwa [this] at o
      refine ⟨v, hv, opd_last h o' (fun F' φ' H' y e s' l1 l2 R1 oy q => ?_)⟩
      rcases peek_cases i s' with ⟨d, e1⟩ | e1
      · obtain ⟨_, v', hv', ov'⟩ := peek_ok R1 e1
        rw [hv] at hv'
        cases hv'
        rw [bnd_ok e1] at q
        exact fin R1 ov' oy q
      · rw [bnd_no e1] at q; exact q.elim
    · have : op2 (some i) ma lb mb f s = .no := bnd_no e0
      rw [this] at o; exact o.elim
  | none =>
    refine lif_bind (f := ma) (g := fun r => bnd (opt (asD r)) fun x => bnd (opd lb mb) fun y => opt (f x y)) h (Q := Q) o (fun F1 φ1 H1 v r1 s1 l1 l2 R1 o1 q => ?_)
    cases r1 with
    | dat d => 
      refine opd_last R1 (l := lb) (mb := mb) (g := fun y => opt (f d y)) q (fun F2 φ2 H2 y e s2 l3 l4 R2 oy q2 => ?_)
      exact fin R2 (.inl (Sh.mono l3 o1)) oy q2
    | fr ds =>
      obtain ⟨p, vs, rfl, e2, e3, e4, e5, e6, e7⟩ := o1
      -- the new list is nobody's while the other operand is reckoned
      have lg : Same G (upd G p (.lst vs)) := same_new e5 _
      have R1' : Rl K C F1 φ1 (upd G p (.lst vs)) s1 σ H1 := by
        refine ⟨⟨R1.sub, fun b u z => ?_, fun b u z => ?_, fun b u z => ?_, R1.fφ, R1.nd, R1.mlen, R1.cell, fun x P k z => (R1.tab x P k z).updG ((R1.tab x P k z).neL e2)⟩, R1.len, fun i sl z => ?_, R1.apart⟩
        · by_cases hb : b = p
          · subst hb; rw [upd_same] at z; cases z; exact e2
          · rw [upd_ne hb] at z; exact R1.gs b u z
        · by_cases hb : b = p
          · subst hb; exact e4
          · rw [upd_ne hb] at z; exact R1.gF b u z
        · by_cases hb : b = p
          · subst hb; exact e6
          · rw [upd_ne hb] at z; exact R1.gφ b u z
        · have w := R1.slot i sl z
          cases sl with
          | un => trivial
          | dat d => exact w
          | hnd n => exact w
          | own es =>
            obtain ⟨a, ws, w1, w2, w3, w4, w5, w6⟩ := w
            have ha : a ≠ p := by
              rintro rfl
              refine e7 i ⟨⟨es, z⟩, ?_⟩
              cases hσ : σ[i]? with
              | none => rw [hσ] at w1; cases w1
              | some o => rw [hσ] at w1; cases w1; rfl
            exact ⟨a, ws, w1, w2, w3, w4, by rw [upd_ne ha]; exact w5, w6⟩
      refine opd_last R1' (l := lb) (mb := mb) (g := fun y => opt (f (.list ds) y)) (Q := Q) (OutE.more (show OutE K C W F1 φ1 G σ Q (bnd (opd lb mb) (fun y => opt (f (.list ds) y)) s1) from q) lg) (fun F2 φ2 H2 y e s2 l3 l4 R2 oy q2 => ?_)
      exact fin R2 (.inr ⟨p, vs, ds, rfl, rfl, R2.gs _ _ upd_same, e3.mono l3⟩) oy q2
    | hnd n => exact q.elim
theorem op1_ok {la : Option Nat} {ma : Mo Vl} {f : D → Option Vl} {Q R : VK} (h : Rl K C F φ G s σ H) (o : OutE K C W F φ G σ Q (op1 la ma f s))
    (k : ∀ F' φ' H' y e z s', Same F F' → φ <+: φ' → Rl K C F' φ' G s' σ H' → Opn K F' H' y e → f e = some z → OutE K C W F' φ' G σ Q (.ok z s') → R y H') : tOpd K C W la ma σ H R := by
  refine opd_last h (g := fun x => opt (f x)) o (fun F' φ' H' y e s' l1 l2 R1 oy q => ?_)
  cases w : f e with
  | none => rw [opt_none w] at q; exact q.elim
  | some z => rw [opt_some w] at q; exact k F' φ' H' y e z s' l1 l2 R1 oy w q
end
section
variable {X : Cx} {C : Kls} {W : WX} {a b : Expr} {la lb : Option Nat} {ma mb : Mo Vl} {f : D → D → Option Vl} {r : R2} {pos : Pos}
def Opd (X : Cx) (C : Kls) (W : WX) (a : Expr) (la : Option Nat) (ma : Mo Vl) : Prop := PE X a (tOpd X.K C W la ma)
theorem me_bin {op : Operator} (hr : OpR X (binaryOp op) r) (ho : OpS X.K C f r) (ha : Opd X C W a la ma) (hb : Opd X C W b lb mb) : PE X (.BinOp a op b pos) (lif X.K C W (op2 la ma lb mb f)) :=
  PEwk (pe_op hr ha hb) fun _ _ _ ⟨_, _, _, _, h, o⟩ => op2_ok ho h o
theorem me_cmp {op : CmpOp} (hr : OpR X (compareOp op) r) (ho : OpS X.K C f r) (ha : Opd X C W a la ma) (hb : Opd X C W b lb mb) (hm : behindInMarks op b = false) : PE X (.Compare a [op] [b] pos) (lif X.K C W (op2 la ma lb mb f)) :=
  PEwk (pe_cmpR hr ha hb hm) fun _ _ _ ⟨_, _, _, _, h, o⟩ => op2_ok ho h o
end
end Gq

namespace Gq
open PySem PySem.Spec L2

abbrev lim : Nat := 1000000
theorem lim_le : lim ≤ sizeLine := by rw [sizeLine_eq]; decide

theorem ShA.nil_inv {K : PySem.W.Frag} {F : Hp} {ds : List D} (h : ShA K F [] ds) : ds = [] := List.eq_nil_of_length_eq_zero h.len.symm
theorem Opn.int {K : PySem.W.Frag} {F H : Hp} {v : V} {i : Int} (h : Opn K F H v (.int i)) : v = .int i := (h.dat (by intro ds; exact fun z => nomatch z)).int_inv
theorem Opn.bl {K : PySem.W.Frag} {F H : Hp} {v : V} {i : Bool} (h : Opn K F H v (.bool i)) : v = .bl i := (h.dat (by intro ds; exact fun z => nomatch z)).bl_inv
theorem Opn.non {K : PySem.W.Frag} {F H : Hp} {v : V} (h : Opn K F H v .none) : v = .non := (h.dat (by intro ds; exact fun z => nomatch z)).non_inv
theorem Opn.str {K : PySem.W.Frag} {F H : Hp} {v : V} {x : Str} (h : Opn K F H v (.str x)) : v = .str x := (h.dat (by intro ds; exact fun z => nomatch z)).str_inv
def rCatL (K : PySem.W.Frag) : R2 := fun x y H Q => ∃ l b xs zs, x = .ref l ∧ y = .ref b ∧ SqL K H l xs ∧ SqL K H b zs ∧ xs.length + zs.length ≤ sizeLine ∧ ∀ p, H p = none → Q (.ref p) (upd H p (.lst (xs ++ zs)))
theorem op_catL {X : Cx} : OpR X (binaryOp .Add) (rCatL X.K) := by
  intro pins s σ H x y v u Q I rx ry h
  obtain ⟨l, b, xs, zs, rfl, rfl, hH, hB, hz, q⟩ := h
  cases rx
  cases ry
  obtain ⟨its, r, ⟨⟨cls, dd, data, sl⟩, n, ho, hc, hd0, hd⟩, hs⟩ := I.list hH
  obtain ⟨its2, r2, ⟨⟨cls2, dd2, data2, sl2⟩, n2, ho2, hc2, hd02, hd2⟩, hs2⟩ := I.list hB
  simp only at hc hd hd0 hc2 hd2 hd02
  subst hc hd hd0 hc2 hd2 hd02
  refine concat_meets ⟨_, ho, rfl⟩ ⟨_, ho2, rfl⟩ noFill_list_add seq_list_add PySem.F.slot_list_add PySem.F.entry_list_add (PySem.F.args_list_add_2 _ _)
    (PyProof.Rows.list_addW l b its.toArray its2.toArray n n2 none none sl sl2 (by rw [List.size_toArray, List.size_toArray, ← r.length, ← r2.length]; exact hz)) ⟨ho, ho2, ?_⟩
  have ea : its.toArray ++ its2.toArray = (its ++ its2).toArray := by simp
  rw [ea]
  exact ⟨.ref _, _, I.lnew (t' := s.toks) (r.append r2) (by rw [List.length_append]; exact hz), rfl, q _ I.fresh⟩

def bAdd : D → D → Option Vl
  | .int i, .int j => some (.dat (.int (i + j)))
  | .str x, .str y => if x.length + y.length ≤ lim then some (.dat (.str (x ++ y))) else none
  | .list xs, .list ys => if xs.length + ys.length ≤ lim then some (.fr (xs ++ ys)) else none
  | .tuple xs, .tuple ys => if xs.length + ys.length ≤ lim then some (.dat (.tuple (xs ++ ys))) else none
  | _, _ => none
def rAdd2 (K : PySem.W.Frag) : R2 := fun x y H Q => ((rI0 fun i j => .int (i + j)) x y H Q) ∨ (∃ i j, x = .str i ∧ y = .str j ∧ i.length + j.length ≤ sizeLine ∧ Q (.str (i ++ j)) H) ∨ rCatL K x y H Q ∨ rCatA K x y H Q
theorem or_add {X : Cx} : OpR X (binaryOp .Add) (rAdd2 X.K) := op_add.or (op_add_str.or (op_catL.or op_catA))
theorem strOk_app {x y : Str} (hx : PyData.strOk x = true) (hy : PyData.strOk y = true) : PyData.strOk (x ++ y) = true := by
  unfold PyData.strOk at *
  show (x.cps ++ y.cps).all _ = true
  rw [Array.all_append, hx, hy]; rfl
theorem Sh.strOk {K : PySem.W.Frag} {F : Hp} {v : V} {x : Str} (h : Sh K F v (.str x)) : PyData.strOk x = true := by simpa [PyData.canLay0] using h.ok
section
variable {K : PySem.W.Frag} {C : Kls}
theorem os_add : OpS K C bAdd (rAdd2 K) := by
  intro F φ G s σ H x y d e z Q h ox oy q k
  unfold bAdd at q
  split at q
  · cases q
    have e1 := (ox.dat (by intro ds; exact fun z => nomatch z)).int_inv
    have e2 := (oy.dat (by intro ds; exact fun z => nomatch z)).int_inv
    subst e1 e2
    exact .inl ⟨_, _, rfl, rfl, k F φ H _ (Same.refl F) (List.prefix_refl φ) h Sh.int⟩
  · split at q
    · rename_i hz
      cases q
      have s1 := ox.dat (by intro ds; exact fun z => nomatch z)
      have s2 := oy.dat (by intro ds; exact fun z => nomatch z)
      have e1 := s1.str_inv
      have e2 := s2.str_inv
      subst e1 e2
      exact .inr (.inl ⟨_, _, rfl, rfl, Nat.le_trans hz lim_le, k F φ H _ (Same.refl F) (List.prefix_refl φ) h (Sh.str (strOk_app (Gq.Sh.strOk s1) (Gq.Sh.strOk s2)))⟩)
    · cases q
  · split at q
    · rename_i hz
      cases q
      obtain ⟨a, vs, rfl, ha, ta⟩ := ox.lst h.sub
      obtain ⟨b, ws, rfl, hb, tb⟩ := oy.lst h.sub
      refine .inr (.inr (.inl ⟨a, b, vs, ws, rfl, rfl, ha, hb, by rw [ta.len, tb.len]; exact Nat.le_trans hz lim_le, fun p hp => ?_⟩))
      obtain ⟨h1, h2⟩ := h.newL hp (ta.app tb)
      exact k F φ _ _ (Same.refl F) (List.prefix_refl φ) h1 h2
    · cases q
  · split at q
    · rename_i hz
      cases q
      obtain ⟨a, vs, rfl, ha, ta⟩ := ox.tup
      obtain ⟨b, ws, rfl, hb, tb⟩ := oy.tup
      refine .inr (.inr (.inr ⟨a, b, vs, ws, rfl, rfl, Same.seqT h.sub ha, Same.seqT h.sub hb, by rw [ta.len, tb.len]; exact Nat.le_trans hz lim_le, fun e => ?_, fun _ e => ?_, fun _ _ p hp => ?_⟩))
      · subst e
        have := ta.nil_inv
        subst this
        exact k F φ H _ (Same.refl F) (List.prefix_refl φ) h (.tup hb tb)
      · subst e
        have := tb.nil_inv
        subst this
        rw [List.append_nil] at k
        exact k F φ H _ (Same.refl F) (List.prefix_refl φ) h (.tup ha ta)
      · obtain ⟨h0, h1, h2⟩ := h.newT hp (ta.app tb)
        exact k _ φ _ _ h0 (List.prefix_refl φ) h1 h2
    · cases q
  · cases q

def bSub : D → D → Option Vl
  | .int i, .int j => some (.dat (.int (i - j)))
  | _, _ => none
theorem os_sub : OpS K C bSub (rI0 fun i j => .int (i - j)) := by
  intro F φ G s σ H x y d e z Q h ox oy q k
  unfold bSub at q
  split at q
  · cases q
    have e1 := ox.int
    have e2 := oy.int
    subst e1 e2
    exact ⟨_, _, rfl, rfl, k F φ H _ (Same.refl F) (List.prefix_refl φ) h Sh.int⟩
  · cases q
def rRepL (K : PySem.W.Frag) : R2 := fun x y H Q => ∃ l k xs, x = .ref l ∧ y = .int k ∧ H l = some (.lst xs) ∧ -(2 ^ 63) ≤ k ∧ k < 2 ^ 63 ∧ xs.length * k.toNat ≤ sizeLine ∧
  ∀ p, H p = none → Q (.ref p) (upd H p (.lst (List.replicate k.toNat xs).flatten))
section
open PySem.Sem PySem.AutoListH
theorem int_rmulW (sl : Array (Option Value)) (a : Int) (t : Tok) (l : Addr) (items : Array Value) (n : Nat) :
    Meets (Builtin.«int.__rmul__» ⟨[.int a t, .ref l], []⟩) (fun _ R s => s.heap.get? l = some { cls := .type "list", dict := none, data := .seq items n, slots := sl } ∧ R (.ok (.ret Value.notImplemented)) s) :=
  .of_wp fun prog w A R s h => by obtain ⟨hp, g, d, tk, os⟩ := s; obtain ⟨hl, h⟩ := h; wp_walk; exact ⟨_, rfl, h⟩
theorem list_mulW (sl : Array (Option Value)) (l : Addr) (items : Array Value) (n : Nat) (x : Int) (u : Tok) (hc0 : ¬(!Builtin.List.listFitsIndex x) = true) (hc1 : ¬items.size * x.toNat > (2 ^ 63 - 1) / 8) (hc2 : ¬Builtin.List.listTooLong (items.size * x.toNat) = true) :
    Meets (Builtin.«list.__mul__» ⟨[.ref l, .int x u], []⟩) (fun _ R s => s.heap.get? l = some { cls := .type "list", dict := none, data := .seq items n, slots := sl } ∧ R (.ok (.ret (Value.ref s.heap.objs.size))) { s with heap := s.heap.push { cls := Value.type "list", data := Data.seq (List.foldl (fun x1 x2 => x1 ++ x2) #[] (List.replicate (if items.isEmpty = true then 0 else x.toNat) items)) }, toks := s.toks }) :=
  .of_wp fun prog w A R s h => by
    obtain ⟨hp, g, d, tk, os⟩ := s; obtain ⟨hl, h⟩ := h
    have hsz := joined_fits hc2
    wp_walk; refine wpAny_ite_false (decide_eq_false (Nat.not_lt.mpr hsz)) ?_; wp_walk; exact ⟨_, rfl, h⟩
end
def rRepS (K : PySem.W.Frag) : R2 := fun x y H Q => ∃ l k xs, x = .ref l ∧ y = .int k ∧ SqL K H l xs ∧ -(2 ^ 63) ≤ k ∧ k < 2 ^ 63 ∧ xs.length * k.toNat ≤ sizeLine ∧
  ∀ p, H p = none → Q (.ref p) (upd H p (.lst (List.replicate k.toNat xs).flatten))
theorem op_repS {X : Cx} : OpR X (binaryOp .Mult) (rRepS X.K) := by
  intro pins s σ H x y v u Q I rx ry h
  obtain ⟨l, k, xs, rfl, rfl, hH, h1, h2, hz, q⟩ := h
  cases rx
  obtain ⟨t, rfl⟩ := ry
  obtain ⟨its, r, ⟨⟨cls, dd, data, sl⟩, n, ho, hc, hd0, hd⟩, hs⟩ := I.list hH
  simp only at hc hd hd0
  subst hc hd hd0
  have hl : xs.length = its.length := r.length
  have hlen : its.toArray.size * k.toNat ≤ sizeLine := by rw [List.size_toArray, ← hl]; exact hz
  have hcap : ¬ its.toArray.size * k.toNat > (2 ^ 63 - 1) / 8 := by
    have : (sizeLine : Nat) ≤ (2 ^ 63 - 1) / 8 := by decide
    omega
  have hfit : ¬ (!Builtin.List.listFitsIndex k) = true := by
    rw [fitsIndex_both h1 h2]
    exact Bool.false_ne_true
  have hlong : ¬ Builtin.List.listTooLong (its.toArray.size * k.toNat) = true := by
    rw [notLongL hlen]
    exact Bool.false_ne_true
  have hnew : List.foldl (fun x1 x2 => x1 ++ x2) #[] (List.replicate (if its.toArray.isEmpty = true then 0 else k.toNat) its.toArray) = (List.replicate k.toNat its).flatten.toArray := by
    have f0 : ∀ m : Nat, List.foldl (fun x1 x2 => x1 ++ x2) #[] (List.replicate m its.toArray) = (List.replicate m its).flatten.toArray := fun m => by
      have := foldl_rep its m []
      rw [List.nil_append] at this
      exact this
    rw [f0]
    cases its with
    | nil => simp
    | cons a r' => rw [if_neg (by simp)]
  refine wpAny_binaryOp_repeat_ref (T := "list") (U := "int") (by decide) ⟨_, ho, rfl⟩ (fun s' => typeIs_int s' k t) noFill_list_mul F.fills_int_mul F.slot_int_rmul repeat_list F.slot_int_index.lookup
    (call_meets F.slot_int_rmul (typeIs_int s k t) F.entry_int_rmul (F.args_int_rmul_2 _ _) (int_rmulW sl k t l its.toArray n)
      ⟨ho, rfl, ⟨_, ho, rfl⟩, call_meets F.slot_list_mul ⟨_, ho, rfl⟩ F.entry_list_mul (F.args_list_mul_2 _ _) (list_mulW sl l its.toArray n k t hfit hcap hlong) ⟨ho, ?_⟩⟩)
  rw [hnew]
  exact ⟨.ref _, _, I.lnew (t' := s.toks) (r.rep k.toNat) (by rw [PyProof.Rows.lm_len_rep_flat, Nat.mul_comm]; exact hz), rfl, q _ I.fresh⟩
def mulOk (i j : Int) : Bool := decide (-(2 ^ 64) < i ∧ i < 2 ^ 64) || decide (-(2 ^ 64) < j ∧ j < 2 ^ 64)
theorem mulOk.ok {i j : Int} (h : mulOk i j = true) : CMul i j := by
  unfold mulOk at h
  rw [Bool.or_eq_true, decide_eq_true_iff, decide_eq_true_iff] at h
  exact h
def bMul : D → D → Option Vl
  | .int i, .int j => if mulOk i j then some (.dat (.int (i * j))) else none
  | .tuple xs, .int k => if xs ≠ [] ∧ 2 ≤ k ∧ k ≤ 1000 ∧ xs.length ≤ 1000 then some (.dat (.tuple (List.replicate k.toNat xs).flatten)) else none
  | .list xs, .int k => if 0 ≤ k ∧ k ≤ 1000000 ∧ xs.length * k.toNat ≤ 1000000 then some (.fr (List.replicate k.toNat xs).flatten) else none
  | _, _ => none
theorem ShA.repF {F : Hp} {vs : List V} {ds : List D} (h : ShA K F vs ds) : ∀ n : Nat, ShA K F (List.replicate n vs).flatten (List.replicate n ds).flatten
  | 0 => .nil
  | n + 1 => by
    rw [List.replicate_succ, List.replicate_succ, List.flatten_cons, List.flatten_cons]
    exact h.app (ShA.repF h n)
theorem ShA.ne {F : Hp} {vs : List V} {ds : List D} (h : ShA K F vs ds) (n : ds ≠ []) : vs ≠ [] := fun z => by
  subst z; exact n h.nil_inv
def rMul2 (K : PySem.W.Frag) : R2 := fun x y H Q => rI CMul (fun i j => .int (i * j)) x y H Q ∨ rRepT K x y H Q ∨ rRepS K x y H Q
theorem or_mul {X : Cx} : OpR X (binaryOp .Mult) (rMul2 X.K) := op_mul.or (op_repT.or op_repS)
theorem os_mul : OpS K C bMul (rMul2 K) := by
  intro F φ G s σ H x y d e z Q h ox oy q k
  unfold bMul at q
  split at q
  · split at q
    · rename_i hm
      cases q
      have e1 := ox.int
      have e2 := oy.int
      subst e1 e2
      exact .inl ⟨_, _, rfl, rfl, mulOk.ok hm, k F φ H _ (Same.refl F) (List.prefix_refl φ) h Sh.int⟩
    · cases q
  · split at q
    · rename_i hm
      cases q
      obtain ⟨a, vs, rfl, ha, ta⟩ := ox.tup
      have e2 := oy.int
      subst e2
      refine .inr (.inl ⟨a, _, vs, rfl, rfl, Same.seqT h.sub ha, ta.ne hm.1, hm.2.1, hm.2.2.1, by rw [ta.len]; exact hm.2.2.2, fun p hp => ?_⟩)
      obtain ⟨h0, h1, h2⟩ := h.newT hp (ta.repF _)
      exact k _ φ _ _ h0 (List.prefix_refl φ) h1 h2
    · cases q
  · split at q
    · rename_i hm
      cases q
      obtain ⟨a, vs, rfl, ha, ta⟩ := ox.lst h.sub
      have e2 := oy.int
      subst e2
      refine .inr (.inr ⟨a, _, vs, rfl, rfl, ha, by omega, by omega, by rw [ta.len]; have := sizeLine_eq; omega, fun p hp => ?_⟩)
      obtain ⟨h1, h2⟩ := h.newL hp (ta.repF _)
      exact k F φ _ _ (Same.refl F) (List.prefix_refl φ) h1 h2
    · cases q
  · cases q
def bDiv : D → D → Option Vl
  | .int i, .int j => if j ≠ 0 ∧ j.natAbs < 1073741824 then some (.dat (.int (i.fdiv j))) else none
  | _, _ => none
theorem os_div : OpS K C bDiv (rI CDivN fun i j => .int (i.fdiv j)) := by
  intro F φ G s σ H x y d e z Q h ox oy q k
  unfold bDiv at q
  split at q
  · split at q
    · rename_i hm
      cases q
      have e1 := ox.int
      have e2 := oy.int
      subst e1 e2
      exact ⟨_, _, rfl, rfl, hm, k F φ H _ (Same.refl F) (List.prefix_refl φ) h Sh.int⟩
    · cases q
  · cases q
def bMod : D → D → Option Vl
  | .int i, .int j => if j ≠ 0 then some (.dat (.int (i.fmod j))) else none
  | _, _ => none
theorem os_mod : OpS K C bMod (rI (fun _ j => j ≠ 0) fun i j => .int (i.fmod j)) := by
  intro F φ G s σ H x y d e z Q h ox oy q k
  unfold bMod at q
  split at q
  · split at q
    · rename_i hm
      cases q
      have e1 := ox.int
      have e2 := oy.int
      subst e1 e2
      exact ⟨_, _, rfl, rfl, hm, k F φ H _ (Same.refl F) (List.prefix_refl φ) h Sh.int⟩
    · cases q
  · cases q
def bPow : D → D → Option Vl
  | .int i, .int j => if 0 ≤ j ∧ j ≤ 1000000 ∧ i.natAbs < 2 ^ 64 then some (.dat (.int (i ^ j.toNat))) else none
  | _, _ => none
theorem os_pow : OpS K C bPow (rI CPow fun i j => .int (i ^ j.toNat)) := by
  intro F φ G s σ H x y d e z Q h ox oy q k
  unfold bPow at q
  split at q
  · split at q
    · rename_i hm
      cases q
      have e1 := ox.int
      have e2 := oy.int
      subst e1 e2
      exact ⟨_, _, rfl, rfl, hm, k F φ H _ (Same.refl F) (List.prefix_refl φ) h Sh.int⟩
    · cases q
  · cases q

def cInt (p : Int → Int → Bool) : D → D → Option Vl
  | .int i, .int j => some (.dat (.bool (p i j)))
  | _, _ => none
theorem os_cInt (p : Int → Int → Bool) : OpS K C (cInt p) (rI0 fun i j => .bl (p i j)) := by
  intro F φ G s σ H x y d e z Q h ox oy q k
  unfold cInt at q
  split at q
  · cases q
    have e1 := ox.int
    have e2 := oy.int
    subst e1 e2
    exact ⟨_, _, rfl, rfl, k F φ H _ (Same.refl F) (List.prefix_refl φ) h Sh.bl⟩
  · cases q
abbrev cLt := cInt fun i j => decide (i < j)
abbrev cLe := cInt fun i j => decide (i ≤ j)
abbrev cGt := cInt fun i j => decide (j < i)
abbrev cGe := cInt fun i j => decide (j ≤ i)

def rEqA (K : PySem.W.Frag) (neg : Bool) : R2 := fun x y H Q => ∃ d e, Sh K H x d ∧ Sh K H y e ∧ min d.depth e.depth ≤ 64 ∧ Q (.bl (if neg then !PyData.eqv d e else PyData.eqv d e)) H
theorem op_eqA {X : Cx} (hu : X.A.units + 64 < cLine) : OpR X (compareOp .Eq) (rEqA X.K false) := by
  intro pins s σ H x y v u Q I rx ry h
  obtain ⟨d, e, hd, he, hz, q⟩ := h
  obtain ⟨as, r1⟩ := Dp.reads I d x v hd.dp rx
  obtain ⟨bs, r2⟩ := Dp.reads I e y u he.dp ry
  exact SeqAt.compareEq_reads r1 r2 hd.ok he.ok (by omega) ⟨.bl _, H, I, rfl, q⟩
theorem op_neA {X : Cx} (hu : X.A.units + 64 < cLine) : OpR X (compareOp .NotEq) (rEqA X.K true) := by
  intro pins s σ H x y v u Q I rx ry h
  obtain ⟨d, e, hd, he, hz, q⟩ := h
  obtain ⟨as, r1⟩ := Dp.reads I d x v hd.dp rx
  obtain ⟨bs, r2⟩ := Dp.reads I e y u he.dp ry
  exact SeqAt.compareNe_reads r1 r2 hd.ok he.ok (by omega) ⟨.bl _, H, I, rfl, q⟩
def cEqB (neg : Bool) (d e : D) : Option Vl := if min d.depth e.depth ≤ 64 then some (.dat (.bool (if neg then !PyData.eqv d e else PyData.eqv d e))) else none
theorem os_eq (neg : Bool) : OpS K C (cEqB neg) (rEqA K neg) := by
  intro F φ G s σ H x y d e z Q h ox oy q k
  unfold cEqB at q
  split at q
  · rename_i hz
    cases q
    exact ⟨d, e, ox.sh h.sub, oy.sh h.sub, hz, k F φ H _ (Same.refl F) (List.prefix_refl φ) h Sh.bl⟩
  · cases q

def vFlat : V → Bool
  | .non | .bl _ => true
  | _ => false
def rIsA (neg : Bool) : R2 := fun x y H Q => (y = .non ∨ (vFlat x = true ∧ ∃ b, y = .bl b)) ∧ Q (.bl (if neg then !decide (x = y) else decide (x = y))) H
theorem op_isA {X : Cx} : OpR X (compareOp .Is) (rIsA false) := by
  intro pins s σ H x y v u Q I rx ry h
  obtain ⟨h, q⟩ := h
  rcases h with rfl | ⟨hx, b, rfl⟩
  · exact op_isN pins s σ H _ _ v u Q I rx ry ⟨rfl, q⟩
  · cases x with
    | non =>
      cases (show v = Value.none from rx)
      cases (show u = Value.bool b from ry)
      exact wpAny_is_other rfl (fun z => nomatch z) ⟨.bl false, H, I, rfl, by simpa using q⟩
    | bl a => exact op_is_bl pins s σ H _ _ v u Q I rx ry ⟨a, b, rfl, rfl, by simpa using q⟩
    | _ => exact absurd hx Bool.false_ne_true
theorem op_isnotA {X : Cx} : OpR X (compareOp .IsNot) (rIsA true) := by
  intro pins s σ H x y v u Q I rx ry h
  obtain ⟨h, q⟩ := h
  rcases h with rfl | ⟨hx, b, rfl⟩
  · exact op_notN pins s σ H _ _ v u Q I rx ry ⟨rfl, q⟩
  · cases x with
    | non =>
      cases (show v = Value.none from rx)
      cases (show u = Value.bool b from ry)
      exact wpAny_isNot_other rfl (fun z => nomatch z) ⟨.bl true, H, I, rfl, by simpa using q⟩
    | bl a => exact op_isnot_bl pins s σ H _ _ v u Q I rx ry ⟨a, b, rfl, rfl, by simpa using q⟩
    | _ => exact absurd hx Bool.false_ne_true
def cIs (neg : Bool) : D → D → Option Vl
  | .none, .none => some (.dat (.bool (!neg)))
  | .none, .bool _ => some (.dat (.bool neg))
  | .bool a, .bool b => some (.dat (.bool (if neg then !(a == b) else a == b)))
  | _, .none => some (.dat (.bool neg))
  | _, _ => none
theorem os_is (neg : Bool) : OpS K C (cIs neg) (rIsA neg) := by
  intro F φ G s σ H x y d e z Q h ox oy q k
  have fin : ∀ b : Bool, z = .dat (.bool b) → Q (.bl b) H := fun b hb => by
    subst hb
    exact k F φ H _ (Same.refl F) (List.prefix_refl φ) h Sh.bl
  have nn : ∀ {d : D} {x : V}, Opn K F H x d → d ≠ .none → x ≠ .non := fun {d x} o n e => by
    subst e
    rcases o with o | ⟨_, _, _, z, _⟩
    · have := o.dp; cases this; exact n rfl
    · cases z
  unfold cIs at q
  split at q
  · cases q
    have e1 := ox.non
    have e2 := oy.non
    subst e1 e2
    refine ⟨.inl rfl, fin _ ?_⟩
    cases neg <;> rfl
  · cases q
    have e1 := ox.non
    have e2 := oy.bl
    subst e1 e2
    refine ⟨.inr ⟨rfl, _, rfl⟩, fin _ ?_⟩
    cases neg <;> rfl
  · rename_i a b
    cases q
    have e1 := ox.bl
    have e2 := oy.bl
    subst e1 e2
    refine ⟨.inr ⟨rfl, _, rfl⟩, fin _ ?_⟩
    cases neg <;> cases a <;> cases b <;> rfl
  · rename_i hn
    cases q
    have e2 := oy.non
    subst e2
    have := nn ox (by intro e; exact hn e)
    refine ⟨.inl rfl, fin _ ?_⟩
    cases neg <;> simp [this]
  · cases q

theorem reads_of {X : Cx} {pins : List (Addr × Obj)} {σ : L2.St} {H : Hp} {s : Shared} (I : Inv X pins σ H s) : ∀ {ds : List D} {vs : List V} {us : List Value}, DpAll X.K H vs ds → Vals vs us → ∀ u ∈ us, ∃ d as, d ∈ ds ∧ Reads s.heap u d as
  | [], _, _, h, r, u, hu => by cases h; cases r; cases hu
  | d :: ds, _, _, h, r, u, hu => by
    cases h with
    | cons h1 h2 =>
      cases r with
      | cons r1 r2 =>
        rcases List.mem_cons.mp hu with rfl | hu
        · obtain ⟨as, z⟩ := Dp.reads I d _ _ h1 r1
          exact ⟨d, as, List.mem_cons_self, z⟩
        · obtain ⟨d', as, z1, z2⟩ := reads_of I h2 r2 u hu
          exact ⟨d', as, List.mem_cons_of_mem _ z1, z2⟩
noncomputable def eqRd (h : Heap) (e : D) (u : Value) : Bool := @decide (∃ d as, d.canLay0 = true ∧ Reads h u d as ∧ PyData.eqv d e = true) (Classical.propDecidable _)
theorem eqRd_eq {h : Heap} {e d : D} {u : Value} {as : List Addr} (hd : d.canLay0 = true) (r : Reads h u d as) : eqRd h e u = PyData.eqv d e := by
  unfold eqRd
  cases q : PyData.eqv d e with
  | true => exact @decide_eq_true _ (Classical.propDecidable _) ⟨d, as, hd, r, q⟩
  | false =>
    refine @decide_eq_false _ (Classical.propDecidable _) ?_
    rintro ⟨d', as', h1, h2, h3⟩
    have := SeqAt.Reads.unique d d' u as as' hd r h2
    subst this
    rw [q] at h3; cases h3
theorem any_eqRd {X : Cx} {pins : List (Addr × Obj)} {σ : L2.St} {H : Hp} {s : Shared} (I : Inv X pins σ H s) {e : D} : ∀ {ds : List D} {vs : List V} {us : List Value}, DpAll X.K H vs ds → PyData.canLayAll0 ds = true → Vals vs us → us.any (eqRd s.heap e) = ds.any fun d => PyData.eqv d e
  | [], _, _, h, _, r => by cases h; cases r; rfl
  | d :: ds, _, _, h, o, r => by
    cases h with
    | cons h1 h2 =>
      cases r with
      | cons r1 r2 =>
        have o' : d.canLay0 = true ∧ PyData.canLayAll0 ds = true := by simpa [PyData.canLayAll0] using o
        obtain ⟨as, z⟩ := Dp.reads I d _ _ h1 r1
        rw [List.any_cons, List.any_cons, eqRd_eq o'.1 z, any_eqRd I h2 o'.2 r2]
def rInA (K : PySem.W.Frag) (neg : Bool) : R2 := fun x y H Q => ∃ e p xs ds, Sh K H x e ∧ y = .ref p ∧ (SqL K H p xs ∨ SqT K H p xs) ∧ ShA K H xs ds ∧ e.depth ≤ 64 ∧ Q (.bl (if neg then !(ds.any fun d => PyData.eqv d e) else ds.any fun d => PyData.eqv d e)) H
theorem in_core {X : Cx} {pins : List (Addr × Obj)} {σ : L2.St} {H : Hp} {s : Shared} (I : Inv X pins σ H s) (hu : X.A.units + 66 < cLine) {x : V} {v : Value} {e : D} (rx : RelV x v) (he : Sh X.K H x e) (hz : e.depth ≤ 64) {ds : List D} {xs : List V} {us : List Value}
    (t : ShA X.K H xs ds) (r : Vals xs us) : ∀ u ∈ us, SeqAt.EqAt X.A.in1 s u v (eqRd s.heap e u) := fun u hu' => by
  obtain ⟨as, r1⟩ := Dp.reads I e x v he.dp rx
  obtain ⟨d, bs, hd, r2⟩ := reads_of I t.dp r u hu'
  have od := canAll_iff.mp t.ok d hd
  rw [eqRd_eq od r2]
  refine SeqAt.eqAt_reads d e X.A.in1 s u v bs as r2 r1 od he.ok ?_
  have : X.A.in1.units = X.A.units + 1 := rfl
  have := Nat.min_le_right d.depth e.depth
  omega
theorem op_inA {X : Cx} (hu : X.A.units + 66 < cLine) : OpR X (compareOp .In) (rInA X.K false) := by
  intro pins s σ H x y v u Q I rx ry h
  obtain ⟨e, p, xs, ds, he, rfl, hs, t, hz, q⟩ := h
  cases ry
  rcases hs with hs | hs
  · obtain ⟨its, r, pl, _⟩ := I.list hs
    refine SeqAt.in_listAt (eqRd s.heap e) pl.isList (fun w hw => in_core I hu rx he hz t r w (by simpa using hw)) ⟨.bl _, H, I, rfl, ?_⟩
    rw [show its.toArray.any (eqRd s.heap e) = its.any (eqRd s.heap e) by simp, any_eqRd I t.dp t.ok r]
    exact q
  · obtain ⟨its, r, pl, _⟩ := I.tuple hs
    refine SeqAt.in_tupleAt (eqRd s.heap e) pl (fun w hw => in_core I hu rx he hz t r w (by simpa using hw)) ⟨.bl _, H, I, rfl, ?_⟩
    rw [show its.toArray.any (eqRd s.heap e) = its.any (eqRd s.heap e) by simp, any_eqRd I t.dp t.ok r]
    exact q
theorem op_notInA {X : Cx} (hu : X.A.units + 66 < cLine) : OpR X (compareOp .NotIn) (rInA X.K true) := by
  intro pins s σ H x y v u Q I rx ry h
  obtain ⟨e, p, xs, ds, he, rfl, hs, t, hz, q⟩ := h
  cases ry
  rcases hs with hs | hs
  · obtain ⟨its, r, pl, _⟩ := I.list hs
    refine SeqAt.notIn_listAt (eqRd s.heap e) pl.isList (fun w hw => in_core I hu rx he hz t r w (by simpa using hw)) ⟨.bl _, H, I, rfl, ?_⟩
    rw [show its.toArray.any (eqRd s.heap e) = its.any (eqRd s.heap e) by simp, any_eqRd I t.dp t.ok r]
    exact q
  · obtain ⟨its, r, pl, _⟩ := I.tuple hs
    refine SeqAt.notIn_tupleAt (eqRd s.heap e) pl (fun w hw => in_core I hu rx he hz t r w (by simpa using hw)) ⟨.bl _, H, I, rfl, ?_⟩
    rw [show its.toArray.any (eqRd s.heap e) = its.any (eqRd s.heap e) by simp, any_eqRd I t.dp t.ok r]
    exact q
def cIn (neg : Bool) (e : D) (y : D) : Option Vl := match y with
  | .list ds | .tuple ds => if e.depth ≤ 64 then some (.dat (.bool (if neg then !(ds.any fun d => PyData.eqv d e) else ds.any fun d => PyData.eqv d e))) else none
  | _ => none
theorem os_in (neg : Bool) : OpS K C (cIn neg) (rInA K neg) := by
  intro F φ G s σ H x y d e z Q h ox oy q k
  unfold cIn at q
  split at q
  · split at q
    · rename_i hz
      cases q
      obtain ⟨a, vs, rfl, ha, ta⟩ := oy.lst h.sub
      exact ⟨d, a, vs, _, ox.sh h.sub, rfl, .inl ha, ta.mono h.sub, hz, k F φ H _ (Same.refl F) (List.prefix_refl φ) h Sh.bl⟩
    · cases q
  · split at q
    · rename_i hz
      cases q
      obtain ⟨a, vs, rfl, ha, ta⟩ := oy.tup
      exact ⟨d, a, vs, _, ox.sh h.sub, rfl, .inr (Same.seqT h.sub ha), ta.mono h.sub, hz, k F φ H _ (Same.refl F) (List.prefix_refl φ) h Sh.bl⟩
    · cases q
  · cases q
end
end Gq

namespace Gq
open PySem PySem.Spec L2

section
variable {K : PySem.W.Frag} {C : Kls} {W : WX} {F F' : Hp} {φ φ' : List Addr} {G G' : Hp} {s s' : S} {σ : L2.St} {H H' : Hp} {m : List Cell}

theorem OwnAt.get {e : List Sl} {i : Nat} {a : Addr} (o : OwnAt e σ i a) : σ[i]? = some (some (.ref a)) := o.2
theorem join_some {i : Nat} {v : V} (h : (σ[i]?).join = some v) : σ[i]? = some (some v) := by
  cases hσ : σ[i]? with
  | none => rw [hσ] at h; cases h
  | some o => rw [hσ] at h; cases h; rfl
theorem Rl.protect {p : Addr} {vs : List V} {ds : List D} (R1 : Rl K C F φ G s σ H) (o : VlOk K F φ G s.env σ H (.ref p) (.fr ds)) (e2 : H p = some (.lst vs)) :
    Same G (upd G p (.lst vs)) ∧ Rl K C F φ (upd G p (.lst vs)) s σ H := by
  obtain ⟨p', vs', hp, e2', e3, e4, e5, e6, e7⟩ := o
  cases hp
  rw [e2'] at e2
  cases e2
  have lg : Same G (upd G p (.lst vs)) := same_new e5 _
  refine ⟨lg, ⟨⟨R1.sub, fun b u z => ?_, fun b u z => ?_, fun b u z => ?_, R1.fφ, R1.nd, R1.mlen, R1.cell, fun x P k z => (R1.tab x P k z).updG ((R1.tab x P k z).neL e2')⟩, R1.len, fun i sl z => ?_, R1.apart⟩⟩
  · by_cases hb : b = p
    · subst hb; rw [upd_same] at z; cases z; exact e2'
    · rw [upd_ne hb] at z; exact R1.gs b u z
  · by_cases hb : b = p
    · subst hb; exact e4
    · rw [upd_ne hb] at z; exact R1.gF b u z
  · by_cases hb : b = p
    · subst hb; exact e6
    · rw [upd_ne hb] at z; exact R1.gφ b u z
  · have w := R1.slot i sl z
    cases sl with
    | un => trivial
    | dat d => exact w
    | hnd n => exact w
    | own es =>
      obtain ⟨a, ws, w1, w2, w3, w4, w5, w6⟩ := w
      have ha : a ≠ p := by
        rintro rfl
        exact e7 i ⟨⟨es, z⟩, join_some w1⟩
      exact ⟨a, ws, w1, w2, w3, w4, by rw [upd_ne ha]; exact w5, w6⟩

def eVar (i : Nat) : Mo Vl := fun s => match s.env[i]? with
  | some (.dat d) => .ok (.dat d) s
  | some (.own ds) => .ok (.dat (.list ds)) { s with env := s.env.set i (.dat (.list ds)) }
  | some (.hnd n) => .ok (.hnd n) s
  | _ => .no
theorem Rl.setSl {i : Nat} {sl : Sl} (h : Rl K C F φ G s σ H) (hs : SlOk K φ F G H ((σ[i]?).join) sl) (no : ∀ ds, sl ≠ .own ds) : Rl K C F φ G { s with env := s.env.set i sl } σ H := by
  refine ⟨h.toMl, by rw [h.len, List.length_set], fun j s2 e => ?_, fun j k a o1 o2 => ?_⟩
  · by_cases hj : i = j
    · subst hj
      by_cases hl : i < s.env.length
      · rw [List.getElem?_set_self hl] at e; cases e; exact hs
      · rw [List.getElem?_eq_none (by rw [List.length_set]; omega)] at e; cases e
    · rw [List.getElem?_set_ne hj] at e; exact h.slot j s2 e
  · have back : ∀ {j}, OwnAt (s.env.set i sl) σ j a → OwnAt s.env σ j a := fun {j} ⟨⟨ds, e⟩, e2⟩ => by
      by_cases hj : i = j
      · subst hj
        by_cases hl : i < s.env.length
        · rw [List.getElem?_set_self hl] at e; cases e; exact absurd rfl (no ds)
        · rw [List.getElem?_eq_none (by rw [List.length_set]; omega)] at e; cases e
      · rw [List.getElem?_set_ne hj] at e; exact ⟨⟨ds, e⟩, e2⟩
    exact h.apart j k a (back o1) (back o2)
theorem eVar_ok {i : Nat} {r : Vl} (h : Rl K C F φ G s σ H) (e : eVar i s = .ok r s') : ∃ v F', σ[i]? = some (some v) ∧ Same F F' ∧ Rl K C F' φ G s' σ H ∧ VlOk K F' φ G s'.env σ H v r := by
  unfold eVar at e
  cases q : s.env[i]? with
  | none => rw [q] at e; cases e
  | some sl =>
    rw [q] at e
    have z := h.slot i sl q
    cases sl with
    | un => cases e
    | dat d =>
      cases e
      obtain ⟨x, e1, e2⟩ := z
      exact ⟨x, F, join_some e1, Same.refl F, h, e2⟩
    | hnd n =>
      cases e
      obtain ⟨a, e1, e2⟩ := z
      exact ⟨_, F, join_some e1, Same.refl F, h, a, rfl, e2⟩
    | own ds =>
      cases e
      obtain ⟨a, vs, e1, e2, e3, e4, e5, e6⟩ := z
      have eσ := join_some e1
      -- the name lets go of the list, then it is kept for ever
      have h0 : Rl K C F φ G { s with env := s.env.set i .un } σ H := h.setSl (by trivial) (fun ds z => nomatch z)
      have no : ∀ j, ¬ OwnAt (s.env.set i .un) σ j a := fun j o => by
        obtain ⟨⟨es, q2⟩, q3⟩ := o
        by_cases hj : i = j
        · subst hj
          rw [List.getElem?_set_self (List.getElem?_eq_some_iff.mp q).1] at q2
          cases q2
        · rw [List.getElem?_set_ne hj] at q2
          exact hj (h.apart i j a ⟨⟨ds, q⟩, eσ⟩ ⟨⟨es, q2⟩, q3⟩)
      obtain ⟨h1, h2, h3⟩ := h0.freeze e2 e3 e4 e5 e6 no
      have h4 := h1.setSl (i := i) (sl := .dat (.list ds)) ⟨.ref a, e1, h3⟩ (fun ds z => nomatch z)
      refine ⟨.ref a, _, eσ, h2, ?_, h3⟩
      have : ({ env := (s.env.set i .un).set i (.dat (.list ds)), mem := s.mem } : S) = { env := s.env.set i (.dat (.list ds)), mem := s.mem } := by rw [List.set_set]
      rw [← this]
      exact h4
theorem eVar_cases (i : Nat) (s : S) : (∃ r s', eVar i s = .ok r s') ∨ eVar i s = .no := by
  unfold eVar
  split
  · exact .inl ⟨_, _, rfl⟩
  · exact .inl ⟨_, _, rfl⟩
  · exact .inl ⟨_, _, rfl⟩
  · exact .inr rfl
end
section
variable {X : Cx} {C : Kls} {W : WX} {a b e : Expr} {es : List Expr} {la lb : Option Nat} {ma mb : Mo Vl} {f : D → D → Option Vl} {r : R2} {pos : Pos}
theorem me_var {i : Nat} (h : PE X e (tVar i)) : PE X e (lif X.K C W (eVar i)) := by
  refine PEwk h fun σ H Q ⟨F, φ, G, s, R, o⟩ => ?_
  rcases eVar_cases i s with ⟨r, s', q⟩ | q
  · rw [q] at o
    obtain ⟨v, F', h1, h2, h3, h4⟩ := eVar_ok R q
    exact ⟨v, h1, o F' φ H v h2 (List.prefix_refl φ) h3 h4⟩
  · rw [q] at o; exact o.elim
theorem me_con {v : V} {d : D} (h : PE X e (tC v)) (hs : ∀ F, Sh X.K F v d) : PE X e (lif X.K C W (pur (.dat d))) :=
  PEwk h fun σ H Q ⟨F, φ, G, s, R, o⟩ => o F φ H v (Same.refl F) (List.prefix_refl φ) R (hs F)
theorem opd_none (h : PE X a (lif X.K C W ma)) : Opd X C W a none ma := h
theorem opd_some {i : Nat} (h : PE X a (tVar i)) : Opd X C W a (some i) ma := h

def andV (m k : Mo Vl) : Mo Vl := bnd m fun r => match r with
  | .dat (.bool true) => k
  | .dat (.bool false) => pur (.dat (.bool false))
  | _ => fun _ => .no
def orV (m k : Mo Vl) : Mo Vl := bnd m fun r => match r with
  | .dat (.bool true) => pur (.dat (.bool true))
  | .dat (.bool false) => k
  | _ => fun _ => .no
def notV (m : Mo Vl) : Mo Vl := bnd m fun r => match r with
  | .dat (.bool b) => pur (.dat (.bool (!b)))
  | _ => fun _ => .no
theorem me_and {rest : List Expr} (ha : PE X a (lif X.K C W ma)) (hb : PE X (.BoolOp .And (b :: rest) pos) (lif X.K C W mb)) : PE X (.BoolOp .And (a :: b :: rest) pos) (lif X.K C W (andV ma mb)) := by
  refine PEwk (pe_and ha hb) fun σ H Q ⟨F, φ, G, s, R, o⟩ => ?_
  refine lif_bind (f := ma) R (Q := Q) o fun F' φ' H' v r s' l1 l2 R1 o1 q => ?_
  split at q
  · exact ⟨true, o1.bl_inv, by rw [if_pos rfl]; exact ⟨F', φ', G, s', R1, q⟩⟩
  · exact ⟨false, o1.bl_inv, by rw [if_neg Bool.false_ne_true]; exact q F' φ' H' _ (Same.refl F') (List.prefix_refl φ') R1 Sh.bl⟩
  · exact q.elim
theorem me_or {rest : List Expr} (ha : PE X a (lif X.K C W ma)) (hb : PE X (.BoolOp .Or (b :: rest) pos) (lif X.K C W mb)) : PE X (.BoolOp .Or (a :: b :: rest) pos) (lif X.K C W (orV ma mb)) := by
  refine PEwk (pe_or ha hb) fun σ H Q ⟨F, φ, G, s, R, o⟩ => ?_
  refine lif_bind (f := ma) R (Q := Q) o fun F' φ' H' v r s' l1 l2 R1 o1 q => ?_
  split at q
  · exact ⟨true, o1.bl_inv, by rw [if_pos rfl]; exact q F' φ' H' _ (Same.refl F') (List.prefix_refl φ') R1 Sh.bl⟩
  · exact ⟨false, o1.bl_inv, by rw [if_neg Bool.false_ne_true]; exact ⟨F', φ', G, s', R1, q⟩⟩
  · exact q.elim
theorem me_not (ha : PE X a (lif X.K C W ma)) : PE X (.UnaryOp .Not a pos) (lif X.K C W (notV ma)) := by
  refine PEwk (pe_not ha) fun σ H Q ⟨F, φ, G, s, R, o⟩ => ?_
  refine lif_bind (f := ma) R (Q := Q) o fun F' φ' H' v r s' l1 l2 R1 o1 q => ?_
  split at q
  · exact ⟨_, o1.bl_inv, q F' φ' H' _ (Same.refl F') (List.prefix_refl φ') R1 Sh.bl⟩
  · exact q.elim
def negV (m : Mo Vl) : Mo Vl := bnd m fun r => match r with
  | .dat (.int i) => pur (.dat (.int (-i)))
  | _ => fun _ => .no
theorem me_neg (ha : PE X a (lif X.K C W ma)) : PE X (.UnaryOp .USub a pos) (lif X.K C W (negV ma)) := by
  refine PEwk (pe_un un_neg ha) fun σ H Q ⟨F, φ, G, s, R, o⟩ => ?_
  refine lif_bind (f := ma) R (Q := Q) o fun F' φ' H' v r s' l1 l2 R1 o1 q => ?_
  split at q
  · exact ⟨_, o1.int_inv, q F' φ' H' _ (Same.refl F') (List.prefix_refl φ') R1 Sh.int⟩
  · exact q.elim
end

section
def OutT (K : PySem.W.Frag) (C : Kls) (W : WX) (F : Hp) (φ : List Addr) (G : Hp) (σ : L2.St) (Q : Bool → Hp → Prop) : Rs Bool → Prop
  | .ok r s' => ∀ F' φ' H', Same F F' → φ <+: φ' → Rl K C F' φ' G s' σ H' → Q r H'
  | .exc c fs s' => ∀ F' φ' H' k d vs, Same F F' → φ <+: φ' → Rl K C F' φ' G s' σ H' → C c = some k → H' d = some (.xd vs) → FldOk K F' vs fs → W (.ref k) (some d) σ H'
  | .no => False
def lifT (K : PySem.W.Frag) (C : Kls) (W : WX) (f : Mo Bool) : TT := fun σ H Q => ∃ F φ G s, Rl K C F φ G s σ H ∧ OutT K C W F φ G σ Q (f s)
variable {K : PySem.W.Frag} {C : Kls} {W : WX} {F F' : Hp} {φ φ' : List Addr} {G G' : Hp} {s s' : S} {σ : L2.St} {H H' : Hp} {m : List Cell}
theorem OutT.later {r : Rs Bool} {Q : Bool → Hp → Prop} (h : OutT K C W F φ G σ Q r) (le : Same F F') (lp : φ <+: φ') : OutT K C W F' φ' G σ Q r := by
  cases r with
  | ok r s' => exact fun F2 φ2 H2 l1 l2 R => h F2 φ2 H2 (le.trans l1) (lp.trans l2) R
  | exc c fs s' => exact fun F2 φ2 H2 k d vs l1 l2 R => h F2 φ2 H2 k d vs (le.trans l1) (lp.trans l2) R
  | no => exact h
theorem lif_bindT {f : Mo Vl} {g : Vl → Mo Bool} {Q : Bool → Hp → Prop} (h : Rl K C F φ G s σ H) (o : OutT K C W F φ G σ Q ((f s).bind g)) {R : VK}
    (k : ∀ F' φ' H' v r s', Same F F' → φ <+: φ' → Rl K C F' φ' G s' σ H' → VlOk K F' φ' G s'.env σ H' v r → OutT K C W F' φ' G σ Q (g r s') → R v H') : lif K C W f σ H R := by
  refine ⟨F, φ, G, s, h, ?_⟩
  cases e : f s with
  | ok r s' =>
    rw [e] at o
    exact fun F' φ' H' v l1 l2 R1 o1 => k F' φ' H' v r s' l1 l2 R1 o1 (OutT.later (r := g r s') o l1 l2)
  | exc c fs s' => rw [e] at o; exact o
  | no => rw [e] at o; exact o.elim
theorem lifT_bind {f : Mo Bool} {g : Bool → Mo Bool} {Q : Bool → Hp → Prop} (h : Rl K C F φ G s σ H) (o : OutT K C W F φ G σ Q ((f s).bind g)) {R : Bool → Hp → Prop}
    (k : ∀ F' φ' H' r s', Same F F' → φ <+: φ' → Rl K C F' φ' G s' σ H' → OutT K C W F' φ' G σ Q (g r s') → R r H') : lifT K C W f σ H R := by
  refine ⟨F, φ, G, s, h, ?_⟩
  cases e : f s with
  | ok r s' =>
    rw [e] at o
    exact fun F' φ' H' l1 l2 R1 => k F' φ' H' r s' l1 l2 R1 (OutT.later (r := g r s') o l1 l2)
  | exc c fs s' => rw [e] at o; exact o
  | no => rw [e] at o; exact o.elim
theorem lifT_bindE {f : Mo Bool} {g : Bool → Mo Vl} {Q : VK} (h : Rl K C F φ G s σ H) (o : OutE K C W F φ G σ Q ((f s).bind g)) {R : Bool → Hp → Prop}
    (k : ∀ F' φ' H' r s', Same F F' → φ <+: φ' → Rl K C F' φ' G s' σ H' → OutE K C W F' φ' G σ Q (g r s') → R r H') : lifT K C W f σ H R := by
  refine ⟨F, φ, G, s, h, ?_⟩
  cases e : f s with
  | ok r s' =>
    rw [e] at o
    exact fun F' φ' H' l1 l2 R1 => k F' φ' H' r s' l1 l2 R1 (OutE.later (r := g r s') o l1 l2)
  | exc c fs s' => rw [e] at o; exact o
  | no => rw [e] at o; exact o.elim
end
section
variable {X : Cx} {C : Kls} {W : WX} {a b e : Expr} {es : List Expr} {la lb : Option Nat} {ma mb : Mo Vl} {ta tb : Mo Bool} {f : D → D → Option Vl} {r : R2} {pos : Pos}
def tru (m : Mo Vl) : Mo Bool := bnd m fun r => match r with
  | .dat (.bool b) => pur b
  | .dat .none => pur false
  | _ => fun _ => .no
theorem mt_val (ha : PE X a (lif X.K C W ma)) (he : ∀ whole, isTrue a X.env whole = (do let v ← whole; standAt a.pos; holding [v] (truthy v))) : PT X a (lifT X.K C W (tru ma)) := by
  refine PTwk (pt_truth ha he) fun σ H Q ⟨F, φ, G, s, R, o⟩ => ?_
  refine lif_bindT (f := ma) R (Q := Q) o fun F' φ' H' v r s' l1 l2 R1 o1 q => ?_
  split at q
  · have e := o1.bl_inv
    subst e
    exact ⟨_, rfl, q F' φ' H' (Same.refl F') (List.prefix_refl φ') R1⟩
  · have e := o1.non_inv
    subst e
    exact ⟨_, rfl, q F' φ' H' (Same.refl F') (List.prefix_refl φ') R1⟩
  · exact q.elim
def truB (m : Mo Vl) : Mo Bool := bnd m fun r => match r with
  | .dat (.bool b) => pur b
  | _ => fun _ => .no
theorem OutE.ofT {K : PySem.W.Frag} {F : Hp} {φ : List Addr} {G : Hp} {s : S} {σ : L2.St} {Q : Bool → Hp → Prop} {m : Mo Vl} (o : OutT K C W F φ G σ Q (truB m s)) : OutE K C W F φ G σ (fun x H' => ∃ k, x = .bl k ∧ Q k H') (m s) := by
  have o' : OutT K C W F φ G σ Q ((m s).bind fun r => match r with
      | .dat (.bool b) => pur b
      | _ => fun _ => .no) := o
  cases e : m s with
  | ok r s' =>
    rw [e] at o'
    intro F' φ' H' v l1 l2 R1 o1
    have o2 : OutT K C W F φ G σ Q ((match r with
      | .dat (.bool b) => pur b
      | _ => fun _ => .no) s') := o'
    split at o2
    · exact ⟨_, o1.bl_inv, o2 F' φ' H' l1 l2 R1⟩
    · exact o2.elim
  | exc c fs s' => rw [e] at o'; exact o'
  | no => rw [e] at o'; exact o'.elim
theorem mt_cmp {op : CmpOp} (hr : OpR X (compareOp op) r) (ho : OpS X.K C f r) (ha : Opd X C W a la ma) (hb : Opd X C W b lb mb) (hm : behindInMarks op b = false) : PT X (.Compare a [op] [b] pos) (lifT X.K C W (truB (op2 la ma lb mb f))) :=
  PTwk (pt_cmpR hr ha hb hm) fun _ _ _ ⟨_, _, _, _, h, o⟩ => op2_ok ho h (OutE.ofT o)
def andT (m k : Mo Bool) : Mo Bool := bnd m fun r => if r then k else pur false
def orT (m k : Mo Bool) : Mo Bool := bnd m fun r => if r then pur true else k
def notT (m : Mo Bool) : Mo Bool := bnd m fun r => pur (!r)
theorem PWwk {X : Cx} {e : Expr} {t t' : TT} (h : PW X e t) (w : ∀ σ H Q, t' σ H Q → t σ H Q) : PW X e t' := ⟨fun wh pins s σ H Q I q => h.run wh pins s σ H Q I (w σ H Q q)⟩
theorem mw_and {rest : List Expr} (ha : PT X a (lifT X.K C W ta)) (hb : PW X (.BoolOp .And (b :: rest) pos) (lifT X.K C W tb)) : PW X (.BoolOp .And (a :: b :: rest) pos) (lifT X.K C W (andT ta tb)) := by
  refine PWwk (pw_and ha hb) fun σ H Q ⟨F, φ, G, s, R, o⟩ => ?_
  refine lifT_bind (f := ta) R (Q := Q) o fun F' φ' H' r s' l1 l2 R1 q => ?_
  cases r with
  | true => rw [if_pos rfl]; exact ⟨F', φ', G, s', R1, q⟩
  | false => rw [if_neg Bool.false_ne_true]; exact q F' φ' H' (Same.refl F') (List.prefix_refl φ') R1
theorem mw_or {rest : List Expr} (ha : PT X a (lifT X.K C W ta)) (hb : PW X (.BoolOp .Or (b :: rest) pos) (lifT X.K C W tb)) : PW X (.BoolOp .Or (a :: b :: rest) pos) (lifT X.K C W (orT ta tb)) := by
  refine PWwk (pw_or ha hb) fun σ H Q ⟨F, φ, G, s, R, o⟩ => ?_
  refine lifT_bind (f := ta) R (Q := Q) o fun F' φ' H' r s' l1 l2 R1 q => ?_
  cases r with
  | true => rw [if_pos rfl]; exact q F' φ' H' (Same.refl F') (List.prefix_refl φ') R1
  | false => rw [if_neg Bool.false_ne_true]; exact ⟨F', φ', G, s', R1, q⟩
theorem mt_not (ha : PT X a (lifT X.K C W ta)) : PT X (.UnaryOp .Not a pos) (lifT X.K C W (notT ta)) := by
  refine PTwk (pt_not ha) fun σ H Q ⟨F, φ, G, s, R, o⟩ => ?_
  exact lifT_bind (f := ta) R (Q := Q) o fun F' φ' H' r s' l1 l2 R1 q => q F' φ' H' (Same.refl F') (List.prefix_refl φ') R1
def iteV (t : Mo Bool) (m k : Mo Vl) : Mo Vl := bnd t fun r => if r then m else k
theorem me_ite {c : Expr} (hc : PT X c (lifT X.K C W ta)) (ha : PE X a (lif X.K C W ma)) (hb : PE X b (lif X.K C W mb)) : PE X (.IfExp c a b pos) (lif X.K C W (iteV ta ma mb)) := by
  refine PEwk (pe_ifExp hc ha hb) fun σ H Q ⟨F, φ, G, s, R, o⟩ => ?_
  refine lifT_bindE (f := ta) R (Q := Q) o fun F' φ' H' r s' l1 l2 R1 q => ?_
  cases r with
  | true => rw [if_pos rfl]; exact ⟨F', φ', G, s', R1, q⟩
  | false => rw [if_neg Bool.false_ne_true]; exact ⟨F', φ', G, s', R1, q⟩
def chn3 (j : Int) (g : Int → Int → Bool) : D → Mo Vl
  | .int k => pur (.dat (.bool (g j k)))
  | _ => fun _ => .no
def chn2 (lc : Option Nat) (mc : Mo Vl) (f g : Int → Int → Bool) : D → D → Mo Vl
  | .int i, .int j => if f i j then bnd (opd lc mc) (chn3 j g) else pur (.dat (.bool false))
  | _, _ => fun _ => .no
def chnV (la : Option Nat) (ma : Mo Vl) (lb : Option Nat) (mb : Mo Vl) (lc : Option Nat) (mc : Mo Vl) (f g : Int → Int → Bool) : Mo Vl :=
  bnd (opd la ma) fun x => bnd (opd lb mb) fun y => chn2 lc mc f g x y
theorem chn_ok {K : PySem.W.Frag} {F : Hp} {φ : List Addr} {G : Hp} {s : S} {σ : L2.St} {H : Hp} {lc : Option Nat} {mc : Mo Vl} {p p' : Int → Int → Bool} {Q : VK} (h : Rl K C F φ G s σ H) (o : OutE K C W F φ G σ Q (chnV la ma lb mb lc mc p p' s)) :
    tChain (rI0 fun i j => .bl (p i j)) (rI0 fun i j => .bl (p' i j)) (tOpd K C W la ma) (tOpd K C W lb mb) (tOpd K C W lc mc) σ H Q := by
  refine opd_last h (l := la) (mb := ma) (g := fun x => bnd (opd lb mb) fun y => chn2 lc mc p p' x y) (Q := Q) o (fun F1 φ1 H1 x dx s1 l1 l2 R1 ox q => ?_)
  refine opd_last R1 (l := lb) (mb := mb) (g := fun y => chn2 lc mc p p' dx y) (Q := Q) q (fun F2 φ2 H2 y dy s2 l3 l4 R2 oy q2 => ?_)
  cases dx <;> cases dy <;> first | exact q2.elim | skip
  rename_i i j
  have ex := ox.int
  have ey := oy.int
  subst ex ey
  refine ⟨i, j, rfl, rfl, p i j, rfl, ?_⟩
  have q2 : OutE K C W F2 φ2 G σ Q ((if p i j then bnd (opd lc mc) (chn3 j p') else pur (.dat (.bool false))) s2) := q2
  by_cases hp : p i j = true
  · rw [if_pos hp] at q2 ⊢
    refine opd_last R2 (l := lc) (mb := mc) (Q := Q) q2 (fun F3 φ3 H3 z dz s3 l5 l6 R3 oz q3 => ?_)
    cases dz <;> first | exact q3.elim | skip
    have ez := oz.int
    subst ez
    exact ⟨_, _, rfl, rfl, q3 F3 φ3 H3 _ (Same.refl F3) (List.prefix_refl φ3) R3 Sh.bl⟩
  · rw [if_neg hp] at q2 ⊢
    exact q2 F2 φ2 H2 _ (Same.refl F2) (List.prefix_refl φ2) R2 Sh.bl
theorem me_chn {c : Expr} {op op' : CmpOp} {lc : Option Nat} {mc : Mo Vl} {p p' : Int → Int → Bool} (hr : OpR X (compareOp op) (rI0 fun i j => .bl (p i j))) (hr' : OpR X (compareOp op') (rI0 fun i j => .bl (p' i j))) (ha : Opd X C W a la ma) (hb : Opd X C W b lb mb) (hc : Opd X C W c lc mc)
    (hm : lastMarks [op, op'] [b, c] = false) : PE X (.Compare a [op, op'] [b, c] pos) (lif X.K C W (chnV la ma lb mb lc mc p p')) :=
  PEwk (pe_chain hr hr' ha hb hc hm) fun _ _ _ ⟨_, _, _, _, h, o⟩ => chn_ok h o
theorem mt_chn {c : Expr} {op op' : CmpOp} {lc : Option Nat} {mc : Mo Vl} {p p' : Int → Int → Bool} (hr : OpR X (compareOp op) (rI0 fun i j => .bl (p i j))) (hr' : OpR X (compareOp op') (rI0 fun i j => .bl (p' i j))) (ha : Opd X C W a la ma) (hb : Opd X C W b lb mb) (hc : Opd X C W c lc mc)
    (hm : lastMarks [op, op'] [b, c] = false) : PT X (.Compare a [op, op'] [b, c] pos) (lifT X.K C W (truB (chnV la ma lb mb lc mc p p'))) :=
  PTwk (pt_chain hr hr' ha hb hc hm) fun _ _ _ ⟨_, _, _, _, h, o⟩ => chn_ok h (OutE.ofT o)

def bIx : D → D → Option Vl
  | .list xs, .int i => (atI xs i).map .dat
  | .tuple xs, .int i => (atI xs i).map .dat
  | .str z, .int i => if z.length ≤ lim then (atI z.cps.toList i).bind fun c => if c < 0x110000 then some (.dat (.str ⟨#[c]⟩)) else none else none
  | _, _ => none
theorem ixN_of {α β : Type} {xs : List α} {ys : List β} (h : xs.length = ys.length) {i : Int} {d : β} (e : atI ys i = some d) : ∃ j : Nat, ys[j]? = some d ∧ ∀ v, xs[j]? = some v → atI xs i = some v := by
  unfold atI at *
  rw [h]
  cases q : ixN ys.length i with
  | none => rw [q] at e; cases e
  | some j => rw [q] at e; exact ⟨j, e, fun v hv => hv⟩
theorem os_ix {K : PySem.W.Frag} : OpS K C bIx (rIx K) := by
  intro F φ G s σ H x y d e z Q h ox oy q k
  unfold bIx at q
  split at q
  · rename_i xs i
    obtain ⟨a, vs, rfl, ha, ta⟩ := ox.lst h.sub
    have ey := oy.int
    subst ey
    rw [Option.map_eq_some_iff] at q
    obtain ⟨d', q1, rfl⟩ := q
    obtain ⟨j, e1, e2⟩ := ixN_of ta.len q1
    obtain ⟨v, h1, h2⟩ := ta.at e1
    exact .inl ⟨a, vs, i, v, rfl, rfl, ha, e2 v h1, k F φ H v (Same.refl F) (List.prefix_refl φ) h h2⟩
  · rename_i xs i
    obtain ⟨a, vs, rfl, ha, ta⟩ := ox.tup
    have ey := oy.int
    subst ey
    rw [Option.map_eq_some_iff] at q
    obtain ⟨d', q1, rfl⟩ := q
    obtain ⟨j, e1, e2⟩ := ixN_of ta.len q1
    obtain ⟨v, h1, h2⟩ := ta.at e1
    exact .inr (.inl ⟨a, vs, i, v, rfl, rfl, Same.seqT h.sub ha, e2 v h1, k F φ H v (Same.refl F) (List.prefix_refl φ) h h2⟩)
  · split at q
    · rename_i hz
      have ex := ox.str
      have ey := oy.int
      subst ex ey
      rw [Option.bind_eq_some_iff] at q
      obtain ⟨c, q1, q2⟩ := q
      split at q2
      · rename_i hc
        cases q2
        refine .inr (.inr ⟨_, _, c, rfl, rfl, Nat.le_trans hz lim_le, q1, k F φ H _ (Same.refl F) (List.prefix_refl φ) h (Sh.str ?_)⟩)
        unfold PyData.strOk
        simp [hc]
      · cases q2
    · cases q
  · cases q
theorem me_sub (ha : Opd X C W a la ma) (hb : Opd X C W b lb mb) (hs : PlainIx b) : PE X (.Subscript a b pos) (lif X.K C W (op2 la ma lb mb bIx)) :=
  PEwk (pe_ix ix_seq ha hb hs) fun _ _ _ ⟨_, _, _, _, h, o⟩ => op2_ok os_ix h o
end
end Gq

namespace Gq
open PySem PySem.Spec L2

def ArgOk (K : PySem.W.Frag) (F : Hp) (φ : List Addr) (v : V) : Vl → Prop
  | .dat d => Sh K F v d
  | .fr _ => False
  | .hnd n => ∃ a, v = .ref a ∧ φ[n]? = some a
inductive ArgsOk (K : PySem.W.Frag) (F : Hp) (φ : List Addr) : List V → List Vl → Prop
  | nil : ArgsOk K F φ [] []
  | cons {v : V} {r : Vl} {vs : List V} {rs : List Vl} : ArgOk K F φ v r → ArgsOk K F φ vs rs → ArgsOk K F φ (v :: vs) (r :: rs)
section
variable {K : PySem.W.Frag} {C : Kls} {W : WX} {F F' : Hp} {φ φ' : List Addr} {G G' : Hp} {s s' : S} {σ : L2.St} {H H' : Hp} {m : List Cell}
theorem ArgOk.last {v : V} {r : Vl} (h : ArgOk K F φ v r) (le : Same F F') (lp : φ <+: φ') : ArgOk K F' φ' v r := by
  cases r with
  | dat d => exact Sh.mono le h
  | fr ds => exact h
  | hnd n => obtain ⟨a, e1, e2⟩ := h; exact ⟨a, e1, pre_get lp e2⟩
theorem ArgsOk.last : ∀ {vs : List V} {rs : List Vl}, ArgsOk K F φ vs rs → Same F F' → φ <+: φ' → ArgsOk K F' φ' vs rs
  | _, _, .nil, _, _ => .nil
  | _, _, .cons a t, le, lp => .cons (a.last le lp) (ArgsOk.last t le lp)
theorem ArgsOk.len : ∀ {vs : List V} {rs : List Vl}, ArgsOk K F φ vs rs → vs.length = rs.length
  | _, _, .nil => rfl
  | _, _, .cons _ t => by simp [ArgsOk.len t]
theorem VlOk.arg {e : List Sl} {v : V} {r : Vl} (h : VlOk K F φ G e σ H v (frz r)) : ArgOk K F φ v (frz r) := by
  cases r with
  | dat d => exact h
  | fr ds => exact h
  | hnd n => exact h
def OutA (K : PySem.W.Frag) (C : Kls) (W : WX) (F : Hp) (φ : List Addr) (G : Hp) (σ : L2.St) (Q : List V → Hp → Prop) : Rs (List Vl) → Prop
  | .ok r s' => ∀ F' φ' H' vs, Same F F' → φ <+: φ' → Rl K C F' φ' G s' σ H' → ArgsOk K F' φ' vs r → Q vs H'
  | .exc c fs s' => ∀ F' φ' H' k d vs, Same F F' → φ <+: φ' → Rl K C F' φ' G s' σ H' → C c = some k → H' d = some (.xd vs) → FldOk K F' vs fs → W (.ref k) (some d) σ H'
  | .no => False
def lifA (K : PySem.W.Frag) (C : Kls) (W : WX) (f : Mo (List Vl)) : TA := fun σ H Q => ∃ F φ G s, Rl K C F φ G s σ H ∧ OutA K C W F φ G σ Q (f s)
def evalL : List (Mo Vl) → Mo (List Vl)
  | [] => pur []
  | m :: ms => bnd m fun r => bnd (evalL ms) fun rs => pur (frz r :: rs)
theorem OutA.later {r : Rs (List Vl)} {Q : List V → Hp → Prop} (h : OutA K C W F φ G σ Q r) (le : Same F F') (lp : φ <+: φ') : OutA K C W F' φ' G σ Q r := by
  cases r with
  | ok r s' => exact fun F2 φ2 H2 vs l1 l2 R => h F2 φ2 H2 vs (le.trans l1) (lp.trans l2) R
  | exc c fs s' => exact fun F2 φ2 H2 k d vs l1 l2 R => h F2 φ2 H2 k d vs (le.trans l1) (lp.trans l2) R
  | no => exact h
theorem lif_bindA {f : Mo Vl} {g : Vl → Mo (List Vl)} {Q : List V → Hp → Prop} (h : Rl K C F φ G s σ H) (o : OutA K C W F φ G σ Q ((f s).bind g)) {R : VK}
    (k : ∀ F' φ' H' v r s', Same F F' → φ <+: φ' → Rl K C F' φ' G s' σ H' → VlOk K F' φ' G s'.env σ H' v r → OutA K C W F' φ' G σ Q (g r s') → R v H') : lif K C W f σ H R := by
  refine ⟨F, φ, G, s, h, ?_⟩
  cases e : f s with
  | ok r s' =>
    rw [e] at o
    exact fun F' φ' H' v l1 l2 R1 o1 => k F' φ' H' v r s' l1 l2 R1 o1 (OutA.later (r := g r s') o l1 l2)
  | exc c fs s' => rw [e] at o; exact o
  | no => rw [e] at o; exact o.elim
theorem lifA_bindE {f : Mo (List Vl)} {g : List Vl → Mo Vl} {Q : VK} (h : Rl K C F φ G s σ H) (o : OutE K C W F φ G σ Q ((f s).bind g)) {R : List V → Hp → Prop}
    (k : ∀ F' φ' H' vs r s', Same F F' → φ <+: φ' → Rl K C F' φ' G s' σ H' → ArgsOk K F' φ' vs r → OutE K C W F' φ' G σ Q (g r s') → R vs H') : lifA K C W f σ H R := by
  refine ⟨F, φ, G, s, h, ?_⟩
  cases e : f s with
  | ok r s' =>
    rw [e] at o
    exact fun F' φ' H' vs l1 l2 R1 o1 => k F' φ' H' vs r s' l1 l2 R1 o1 (OutE.later (r := g r s') o l1 l2)
  | exc c fs s' => rw [e] at o; exact o
  | no => rw [e] at o; exact o.elim
end
section
variable {X : Cx} {C : Kls} {W : WX} {a b e : Expr} {es : List Expr} {la lb : Option Nat} {ma mb : Mo Vl} {ms : List (Mo Vl)} {pos : Pos}
theorem ma_nil : PA X [] (lifA X.K C W (evalL [])) := PAwk pa_nil fun σ H Q ⟨F, φ, G, s, R, o⟩ => o F φ H [] (Same.refl F) (List.prefix_refl φ) R .nil
theorem ma_cons (ha : PE X e (lif X.K C W ma)) (hr : PA X es (lifA X.K C W (evalL ms))) (hs : starEach (e :: es) X.env = (false, eval e X.env) :: starEach es X.env) : PA X (e :: es) (lifA X.K C W (evalL (ma :: ms))) := by
  refine PAwk (pa_cons ha hr hs) fun σ H Q ⟨F, φ, G, s, R, o⟩ => ?_
  refine lif_bindA (f := ma) (g := fun r => bnd (evalL ms) fun rs => pur (frz r :: rs)) R (Q := Q) o fun F1 φ1 H1 v r s1 l1 l2 R1 o1 q => ?_
  obtain ⟨F2, l3, R2, o2⟩ := R1.frz o1
  refine ⟨F2, φ1, G, s1, R2, ?_⟩
  have q : OutA X.K C W F1 φ1 G σ Q ((evalL ms s1).bind fun rs => pur (frz r :: rs)) := q
  cases e : evalL ms s1 with
  | ok rs s' =>
    rw [e] at q
    intro F' φ' H' vs k1 k2 R3 o3
    exact q F' φ' H' (v :: vs) (l3.trans k1) k2 R3 (.cons ((VlOk.arg o2).last k1 k2) o3)
  | exc c fs s' =>
    rw [e] at q
    exact fun F' φ' H' k d vs k1 k2 R3 => q F' φ' H' k d vs (l3.trans k1) k2 R3
  | no => rw [e] at q; exact q.elim

def datsOf : List Vl → Option (List D)
  | [] => some []
  | .dat d :: r => (datsOf r).map (d :: ·)
  | _ :: _ => none
theorem ArgsOk.dats {K : PySem.W.Frag} {F : Hp} {φ : List Addr} : ∀ {vs : List V} {rs : List Vl} {ds : List D}, ArgsOk K F φ vs rs → datsOf rs = some ds → ShA K F vs ds
  | _, _, _, .nil, e => by cases e; exact .nil
  | _, r :: rs, ds, .cons a t, e => by
    cases r with
    | dat d =>
      rw [datsOf, Option.map_eq_some_iff] at e
      obtain ⟨es, e1, rfl⟩ := e
      exact .cons a (ArgsOk.dats t e1)
    | fr _ => cases e
    | hnd _ => cases e
def tupV (m : Mo (List Vl)) : Mo Vl := bnd m fun rs => match datsOf rs with
  | some ds => if ds.length ≤ lim then pur (.dat (.tuple ds)) else fun _ => .no
  | none => fun _ => .no
def lstV (m : Mo (List Vl)) : Mo Vl := bnd m fun rs => match datsOf rs with
  | some ds => if ds.length ≤ lim then pur (.fr ds) else fun _ => .no
  | none => fun _ => .no
theorem me_tup {k : Nat} {m : Mo (List Vl)} (h : PA X es (lifA X.K C W m)) : PE X (.Tuple es k pos) (lif X.K C W (tupV m)) := by
  refine PEwk (pe_tup h) fun σ H Q ⟨F, φ, G, s, R, o⟩ => ?_
  refine lifA_bindE (f := m) R (Q := Q) o fun F' φ' H' vs rs s' l1 l2 R1 o1 q => ?_
  cases e : datsOf rs with
  | none => rw [e] at q; exact q.elim
  | some ds =>
    rw [e] at q
    have t := o1.dats e
    dsimp only at q
    split at q
    · rename_i hz
      refine ⟨by rw [t.len]; exact Nat.le_trans hz lim_le, fun p hp => ?_⟩
      obtain ⟨h0, h1, h2⟩ := R1.newT hp t
      exact q _ φ' _ _ h0 (List.prefix_refl φ') h1 h2
    · exact q.elim
theorem me_lst {m : Mo (List Vl)} (h : PA X es (lifA X.K C W m)) : PE X (.List es pos) (lif X.K C W (lstV m)) := by
  refine PEwk (pe_lst h) fun σ H Q ⟨F, φ, G, s, R, o⟩ => ?_
  refine lifA_bindE (f := m) R (Q := Q) o fun F' φ' H' vs rs s' l1 l2 R1 o1 q => ?_
  cases e : datsOf rs with
  | none => rw [e] at q; exact q.elim
  | some ds =>
    rw [e] at q
    have t := o1.dats e
    dsimp only at q
    split at q
    · rename_i hz
      refine ⟨by rw [t.len]; exact Nat.le_trans hz lim_le, fun p hp => ?_⟩
      obtain ⟨h1, h2⟩ := R1.newL hp t
      exact q F' φ' _ _ (Same.refl F') (List.prefix_refl φ') h1 h2
    · exact q.elim

abbrev Fn := List Vl → List Cell → Rs Vl
def OutF (K : PySem.W.Frag) (C : Kls) (E : XK) (F : Hp) (φ : List Addr) (G : Hp) (Q : VK) : Rs Vl → Prop
  | .ok r s' => ∀ F' φ' H' v, Same F F' → φ <+: φ' → Ml K C F' φ' G s'.mem H' → VlOk K F' φ' G [] [] H' v r → Q v H'
  | .exc c fs s' => ∀ F' φ' H' k d vs, Same F F' → φ <+: φ' → Ml K C F' φ' G s'.mem H' → C c = some k → H' d = some (.xd vs) → FldOk K F' vs fs → E (.ref k) (some d) H'
  | .no => False
def spE (K : PySem.W.Frag) (C : Kls) (f : Fn) : Sp := fun vs H Q E => ∃ F φ G args m, Ml K C F φ G m H ∧ ArgsOk K F φ vs args ∧ OutF K C E F φ G Q (f args m)
structure FnAt (X : Cx) (C : Kls) (n : Nat) (x : Str) (f : Fn) : Prop where
  ex : ∃ (g : Addr) (fd : FuncData) (ps : List Str), FnOk X.prog X.w X.K X.mg X.base (L2.CX X.prog X.w) n g fd ps (spE X.K C f) ∧ X.mg x = some (.ref g) ∧ PySem.W.keepIn X.K (.ref g) = true ∧ Binds X.K fd ps []
def ownH (e : List Sl) (σ : L2.St) (H : Hp) (a : Addr) : Prop := ∃ i, OwnAt e σ i a
noncomputable def callG (G : Hp) (e : List Sl) (σ : L2.St) (H : Hp) : Hp := fun a => @ite _ (∃ i, OwnAt e σ i a) (Classical.propDecidable _) (H a) (G a)
end
section
variable {K : PySem.W.Frag} {C : Kls} {W : WX} {F F' : Hp} {φ φ' : List Addr} {G G' : Hp} {s s' : S} {σ : L2.St} {H H' : Hp} {m : List Cell}
theorem OwnAt.slot (h : Rl K C F φ G s σ H) {i : Nat} {a : Addr} (o : OwnAt s.env σ i a) : ∃ ds vs, s.env[i]? = some (.own ds) ∧ H a = some (.lst vs) ∧ ShA K F vs ds ∧ F a = none ∧ G a = none ∧ a ∉ φ := by
  obtain ⟨⟨ds, e⟩, e2⟩ := o
  obtain ⟨b, vs, h1, h2⟩ := h.slot i _ e
  rw [e2] at h1
  cases h1
  exact ⟨ds, vs, e, h2⟩
theorem callG_own {a : Addr} (o : ∃ i, OwnAt s.env σ i a) : callG G s.env σ H a = H a := by
  unfold callG
  exact @if_pos _ (Classical.propDecidable _) o _ _ _
theorem callG_not {a : Addr} (o : ¬ ∃ i, OwnAt s.env σ i a) : callG G s.env σ H a = G a := by
  unfold callG
  exact @if_neg _ (Classical.propDecidable _) o _ _ _
theorem Rl.call (h : Rl K C F φ G s σ H) : Ml K C F φ (callG G s.env σ H) s.mem H := by
  refine ⟨h.sub, fun b u e => ?_, fun b u e => ?_, fun b u e => ?_, h.fφ, h.nd, h.mlen, h.cell, fun x P k e => ⟨(h.tab x P k e).tb, (h.tab x P k e).f, by
    rw [callG_not fun ⟨i, o⟩ => by
      obtain ⟨_, _, _, q, _⟩ := OwnAt.slot h o
      exact (h.tab x P k e).neL q rfl]
    exact (h.tab x P k e).g⟩⟩
  · by_cases o : ∃ i, OwnAt s.env σ i b
    · rw [callG_own o] at e; exact e
    · rw [callG_not o] at e; exact h.gs b u e
  · by_cases o : ∃ i, OwnAt s.env σ i b
    · obtain ⟨i, o⟩ := o
      obtain ⟨_, _, _, _, _, q, _⟩ := OwnAt.slot h o
      exact q
    · rw [callG_not o] at e; exact h.gF b u e
  · by_cases o : ∃ i, OwnAt s.env σ i b
    · obtain ⟨i, o⟩ := o
      obtain ⟨_, _, _, _, _, _, _, q⟩ := OwnAt.slot h o
      exact q
    · rw [callG_not o] at e; exact h.gφ b u e
theorem Rl.after {m' : List Cell} (h : Rl K C F φ G s σ H) (le : Same F F') (lp : φ <+: φ') (M : Ml K C F' φ' (callG G s.env σ H) m' H') : Rl K C F' φ' G { s with mem := m' } σ H' := by
  have gw : Same G (callG G s.env σ H) := fun b u e => by
    by_cases o : ∃ i, OwnAt s.env σ i b
    · obtain ⟨i, o⟩ := o
      obtain ⟨_, _, _, _, _, _, q, _⟩ := OwnAt.slot h o
      rw [q] at e; cases e
    · rw [callG_not o]; exact e
  refine ⟨M.weak gw, h.len, fun i sl e => ?_, h.apart⟩
  have q := h.slot i sl e
  cases sl with
  | un => trivial
  | dat d => obtain ⟨x, e1, e2⟩ := q; exact ⟨x, e1, e2.mono le⟩
  | own ds =>
    obtain ⟨a, vs, e1, e2, e3, e4, e5, e6⟩ := q
    have o : ∃ i, OwnAt s.env σ i a := ⟨i, ⟨ds, e⟩, join_some e1⟩
    have g : callG G s.env σ H a = some (.lst vs) := by rw [callG_own o]; exact e2
    exact ⟨a, vs, e1, M.gs _ _ g, e3.mono le, M.gF _ _ g, e5, M.gφ _ _ g⟩
  | hnd n => obtain ⟨a, e1, e2⟩ := q; exact ⟨a, e1, pre_get lp e2⟩
theorem VlOk.after {v : V} {r : Vl} (h : Rl K C F φ G s σ H) (o : VlOk K F' φ' (callG G s.env σ H) [] [] H' v r) : VlOk K F' φ' G s.env σ H' v r := by
  cases r with
  | dat d => exact o
  | fr ds =>
    obtain ⟨p, vs, e1, e2, e3, e4, e5, e6, _⟩ := o
    have no : ¬ ∃ i, OwnAt s.env σ i p := fun o => by
      rw [callG_own o] at e5
      obtain ⟨i, o⟩ := o
      obtain ⟨_, _, _, q, _⟩ := OwnAt.slot h o
      rw [e5] at q; cases q
    refine ⟨p, vs, e1, e2, e3, e4, ?_, e6, fun i o => no ⟨i, o⟩⟩
    rw [callG_not no] at e5
    exact e5
  | hnd n => exact o
def callV (f : Fn) (m : Mo (List Vl)) : Mo Vl := bnd m fun rs => fun s => match f rs s.mem with
  | .ok r s' => .ok r { s with mem := s'.mem }
  | .exc c fs s' => .exc c fs { s with mem := s'.mem }
  | .no => .no
theorem call_ok {f : Fn} {rs : List Vl} {vs : List V} {Q : VK} (h : Rl K C F φ G s σ H) (a : ArgsOk K F φ vs rs) (o : OutE K C W F φ G σ Q (match f rs s.mem with
  | .ok r s' => .ok r { s with mem := s'.mem }
  | .exc c fs s' => .exc c fs { s with mem := s'.mem }
  | .no => .no)) : spE K C f vs H Q (WE W σ) := by
  refine ⟨F, φ, callG G s.env σ H, rs, s.mem, h.call, a, ?_⟩
  cases e : f rs s.mem with
  | ok r s' =>
    rw [e] at o
    intro F' φ' H' v le lp M ov
    have z := VlOk.after (s := s) h ov
    exact o F' φ' H' v le lp (h.after le lp M) z
  | exc c fs s' =>
    rw [e] at o
    intro F' φ' H' k d vs le lp M
    exact o F' φ' H' k d vs le lp (h.after le lp M)
  | no => rw [e] at o; exact o.elim
end
section
variable {X : Cx} {C : Kls} {W : WX} {a b e : Expr} {es : List Expr} {la lb : Option Nat} {ma mb : Mo Vl} {ms : List (Mo Vl)} {pos p : Pos}
theorem me_call {n : Nat} {x : Str} {f : Fn} {m : Mo (List Vl)} (hf : FnAt X C n x f) (hr : Room n X.A) (hg : Gl X x) (tk : Takes X W) (ha : PA X (e :: es) (lifA X.K C W m)) (hdb : (x == ("__debug__" : Str)) = false)
    (he : starEach (e :: es) X.env = (false, eval e X.env) :: starEach es X.env) (hpl : (backTo pos (starEach es X.env)).any (·.1) = false) : PE X (.Call (.Name x p) (e :: es) [] pos) (lif X.K C W (callV f m)) := by
  obtain ⟨g, fd, ps, ok, hm, hk, hb⟩ := hf.ex
  refine PEwk (pe_callS ok hr hg hm hk hb (fun σ => passAt tk σ) ha hdb he hpl) fun σ H Q ⟨F, φ, G, s, R, o⟩ => ?_
  exact lifA_bindE (f := m) R (Q := Q) o fun F' φ' H' vs rs s' l1 l2 R1 o1 q => call_ok R1 o1 q
end
end Gq

namespace Gq
open PySem PySem.Spec L2

def Bl1 (K : PySem.W.Frag) (C : Kls) (g : D → Option Vl) (r : List V → Hp → VK → Prop) : Prop :=
  ∀ (F : Hp) (φ : List Addr) (G : Hp) (s : S) (σ : L2.St) (H : Hp) (x : V) (d : D) (z : Vl) (Q : VK), Rl K C F φ G s σ H → Opn K F H x d → g d = some z →
    (∀ F' φ' H' v, Same F F' → φ <+: φ' → Rl K C F' φ' G s σ H' → VlOk K F' φ' G s.env σ H' v z → Q v H') → r [x] H Q
def BlN (K : PySem.W.Frag) (C : Kls) (g : List D → Option Vl) (r : List V → Hp → VK → Prop) : Prop :=
  ∀ (F : Hp) (φ : List Addr) (G : Hp) (s : S) (σ : L2.St) (H : Hp) (xs : List V) (ds : List D) (z : Vl) (Q : VK), Rl K C F φ G s σ H → ShA K F xs ds → g ds = some z →
    (∀ F' φ' H' v, Same F F' → φ <+: φ' → Rl K C F' φ' G s σ H' → VlOk K F' φ' G s.env σ H' v z → Q v H') → r xs H Q
def bltN (g : List D → Option Vl) (m : Mo (List Vl)) : Mo Vl := bnd m fun rs => opt ((datsOf rs).bind g)
section
variable {X : Cx} {C : Kls} {W : WX} {a b e : Expr} {es : List Expr} {la lb : Option Nat} {ma mb : Mo Vl} {ms : List (Mo Vl)} {pos p : Pos} {x : Str} {id T : String} {r : List V → Hp → VK → Prop}
theorem op1_call {g : D → Option Vl} {K : PySem.W.Frag} {F : Hp} {φ : List Addr} {G : Hp} {s : S} {σ : L2.St} {H : Hp} {Q : VK} (hg : Bl1 K C g r) (h : Rl K C F φ G s σ H) (o : OutE K C W F φ G σ Q (op1 la ma g s)) :
    tCB r (tCons (tOpd K C W la ma) tNil) σ H Q :=
  op1_ok h o fun F' φ' H' y e z s' l1 l2 R1 oy q o2 => hg F' φ' G s' σ H' y e z Q R1 oy q o2
theorem me_blt1 {g : D → Option Vl} (hc : CallR X (.builtin id) r) (hg : Bl1 X.K C g r) (hgl : Gl X x) (hm : X.mg x = none) (hv : bootBuiltins x = some (.builtin id)) (ha : Opd X C W a la ma) (hn : x ≠ "__name__") (hdb : (x == ("__debug__" : Str)) = false)
    (he : starEach [a] X.env = (false, eval a X.env) :: starEach [] X.env) : PE X (.Call (.Name x p) [a] [] pos) (lif X.K C W (op1 la ma g)) :=
  PEwk (pe_callB hc hgl hm hv (pa_cons ha pa_nil he) hn hdb he rfl) fun _ _ _ ⟨_, _, _, _, h, o⟩ => op1_call hg h o
theorem me_ty1 {g : D → Option Vl} (hc : CallR X (.type T) r) (hg : Bl1 X.K C g r) (hgl : Gl X x) (hm : X.mg x = none) (hv : bootBuiltins x = some (.type T)) (ha : Opd X C W a la ma) (hn : x ≠ "__name__") (hdb : (x == ("__debug__" : Str)) = false)
    (he : starEach [a] X.env = (false, eval a X.env) :: starEach [] X.env) : PE X (.Call (.Name x p) [a] [] pos) (lif X.K C W (op1 la ma g)) :=
  PEwk (pe_callTy hc hgl hm hv (pa_cons ha pa_nil he) hn hdb he rfl) fun _ _ _ ⟨_, _, _, _, h, o⟩ => op1_call hg h o
theorem bltN_call {g : List D → Option Vl} {K : PySem.W.Frag} {F : Hp} {φ : List Addr} {G : Hp} {s : S} {σ : L2.St} {H : Hp} {Q : VK} {m : Mo (List Vl)} (hg : BlN K C g r) (h : Rl K C F φ G s σ H) (o : OutE K C W F φ G σ Q (bltN g m s)) :
    tCB r (lifA K C W m) σ H Q := by
  refine lifA_bindE (f := m) (g := fun rs => opt ((datsOf rs).bind g)) h (Q := Q) o fun F' φ' H' vs rs s' l1 l2 R1 o1 q => ?_
  cases e : datsOf rs with
  | none => rw [e] at q; exact q.elim
  | some ds =>
    rw [e] at q
    cases w : g ds with
    | none => rw [opt_none (o := (some ds).bind g) w] at q; exact q.elim
    | some z => rw [opt_some (o := (some ds).bind g) w] at q; exact hg F' φ' G s' σ H' vs ds z Q R1 (o1.dats e) w q
theorem me_bltN {g : List D → Option Vl} {m : Mo (List Vl)} (hc : CallR X (.builtin id) r) (hg : BlN X.K C g r) (hgl : Gl X x) (hm : X.mg x = none) (hv : bootBuiltins x = some (.builtin id)) (ha : PA X (e :: es) (lifA X.K C W m)) (hn : x ≠ "__name__") (hdb : (x == ("__debug__" : Str)) = false)
    (he : starEach (e :: es) X.env = (false, eval e X.env) :: starEach es X.env) (hpl : (backTo pos (starEach es X.env)).any (·.1) = false) : PE X (.Call (.Name x p) (e :: es) [] pos) (lif X.K C W (bltN g m)) :=
  PEwk (pe_callB hc hgl hm hv ha hn hdb he hpl) fun _ _ _ ⟨_, _, _, _, h, o⟩ => bltN_call hg h o

def gLen : D → Option Vl
  | .list xs => some (.dat (.int xs.length))
  | .tuple xs => some (.dat (.int xs.length))
  | .str z => if z.length ≤ lim then some (.dat (.int z.length)) else none
  | _ => none
theorem bl_len {K : PySem.W.Frag} : Bl1 K C gLen (fun xs H Q => (∃ p ys, xs = [.ref p] ∧ (SqL K H p ys ∨ SqT K H p ys) ∧ Q (.int ys.length) H) ∨ ∃ z, xs = [.str z] ∧ z.length ≤ sizeLine ∧ Q (.int z.length) H) := by
  intro F φ G s σ H x d z Q h ox q k
  unfold gLen at q
  split at q
  · cases q
    obtain ⟨a, vs, rfl, ha, ta⟩ := ox.lst h.sub
    exact .inl ⟨a, vs, rfl, .inl ha, by rw [ta.len]; exact k F φ H _ (Same.refl F) (List.prefix_refl φ) h Sh.int⟩
  · cases q
    obtain ⟨a, vs, rfl, ha, ta⟩ := ox.tup
    exact .inl ⟨a, vs, rfl, .inr (Same.seqT h.sub ha), by rw [ta.len]; exact k F φ H _ (Same.refl F) (List.prefix_refl φ) h Sh.int⟩
  · split at q
    · rename_i hz
      cases q
      have ex := ox.str
      subst ex
      exact .inr ⟨_, rfl, Nat.le_trans hz lim_le, k F φ H _ (Same.refl F) (List.prefix_refl φ) h Sh.int⟩
    · cases q
  · cases q
theorem cr_len : CallR X (.builtin "len") (fun xs H Q => (∃ p ys, xs = [.ref p] ∧ (SqL X.K H p ys ∨ SqT X.K H p ys) ∧ Q (.int ys.length) H) ∨ ∃ z, xs = [.str z] ∧ z.length ≤ sizeLine ∧ Q (.int z.length) H) := by
  intro pins s σ H xs us Q I r h
  rcases h with ⟨p, ys, e, hs, q⟩ | ⟨z, e, hz, q⟩
  · exact call_len_seq pins s σ H xs us Q I r ⟨p, ys, e, hs, q⟩
  · exact call_len_str pins s σ H xs us Q I r ⟨z, e, hz, q⟩
def gInt : D → Option Vl
  | .int i => some (.dat (.int i))
  | .bool b => some (.dat (.int (if b then 1 else 0)))
  | _ => none
theorem bl_int {K : PySem.W.Frag} : Bl1 K C gInt (fun xs H Q => (∃ i, xs = [.int i] ∧ Q (.int i) H) ∨ ∃ k, xs = [.bl k] ∧ Q (.int (if k then 1 else 0)) H) := by
  intro F φ G s σ H x d z Q h ox q k
  unfold gInt at q
  split at q
  · cases q
    have ex := ox.int
    subst ex
    exact .inl ⟨_, rfl, k F φ H _ (Same.refl F) (List.prefix_refl φ) h Sh.int⟩
  · cases q
    have ex := ox.bl
    subst ex
    exact .inr ⟨_, rfl, k F φ H _ (Same.refl F) (List.prefix_refl φ) h Sh.int⟩
  · cases q
def gTup : D → Option Vl
  | .list xs => some (.dat (.tuple xs))
  | .tuple xs => some (.dat (.tuple xs))
  | _ => none
theorem bl_tup {K : PySem.W.Frag} : Bl1 K C gTup (fun xs H Q => ∃ p ys, xs = [.ref p] ∧ ((SqL K H p ys ∧ ∀ l, H l = none → Q (.ref l) (upd H l (.tup ys))) ∨ (SqT K H p ys ∧ Q (.ref p) H))) := by
  intro F φ G s σ H x d z Q h ox q k
  unfold gTup at q
  split at q
  · cases q
    obtain ⟨a, vs, rfl, ha, ta⟩ := ox.lst h.sub
    refine ⟨a, vs, rfl, .inl ⟨ha, fun p hp => ?_⟩⟩
    obtain ⟨h0, h1, h2⟩ := h.newT hp ta
    exact k _ φ _ _ h0 (List.prefix_refl φ) h1 h2
  · cases q
    obtain ⟨a, vs, rfl, ha, ta⟩ := ox.tup
    exact ⟨a, vs, rfl, .inr ⟨Same.seqT h.sub ha, k F φ H _ (Same.refl F) (List.prefix_refl φ) h (.tup ha ta)⟩⟩
  · cases q
def gLst : D → Option Vl
  | .list xs => some (.fr xs)
  | .tuple xs => some (.fr xs)
  | _ => none
theorem bl_lst {K : PySem.W.Frag} : Bl1 K C gLst (fun xs H Q => ∃ p ys, xs = [.ref p] ∧ (SqL K H p ys ∨ SqT K H p ys) ∧ ∀ l, H l = none → Q (.ref l) (upd H l (.lst ys))) := by
  intro F φ G s σ H x d z Q h ox q k
  unfold gLst at q
  split at q
  · cases q
    obtain ⟨a, vs, rfl, ha, ta⟩ := ox.lst h.sub
    refine ⟨a, vs, rfl, .inl ha, fun p hp => ?_⟩
    obtain ⟨h1, h2⟩ := h.newL hp ta
    exact k F φ _ _ (Same.refl F) (List.prefix_refl φ) h1 h2
  · cases q
    obtain ⟨a, vs, rfl, ha, ta⟩ := ox.tup
    refine ⟨a, vs, rfl, .inr (Same.seqT h.sub ha), fun p hp => ?_⟩
    obtain ⟨h1, h2⟩ := h.newL hp ta
    exact k F φ _ _ (Same.refl F) (List.prefix_refl φ) h1 h2
  · cases q

def intsOf : List D → Option (List Int)
  | [] => some []
  | .int i :: r => (intsOf r).map (i :: ·)
  | _ :: _ => none
theorem ShA.ints {K : PySem.W.Frag} {F : Hp} : ∀ {ds : List D} {vs : List V} {ns : List Int}, ShA K F vs ds → intsOf ds = some ns → vs = ns.map V.int
  | [], vs, ns, t, e => by
    cases e
    have := t.len
    exact List.eq_nil_of_length_eq_zero this
  | d :: ds, vs, ns, t, e => by
    cases d <;> first | (cases e; done) | skip
    rw [intsOf, Option.map_eq_some_iff] at e
    obtain ⟨ms, e1, rfl⟩ := e
    obtain ⟨dp, ok⟩ := t
    cases dp with
    | cons h1 h2 =>
      have o' : PyData.canLayAll0 ds = true := by simp [PyData.canLayAll0] at ok; exact ok.2
      cases h1
      rw [List.map_cons, ShA.ints (ds := ds) ⟨h2, o'⟩ e1]
def maxOf : List Int → Int
  | [] => 0
  | [i] => i
  | i :: r => max i (maxOf r)
def minOf : List Int → Int
  | [] => 0
  | [i] => i
  | i :: r => min i (minOf r)
theorem maxOf_eq : ∀ {ns : List Int} {m : Int}, m ∈ ns → (∀ y, y ∈ ns → y ≤ m) → maxOf ns = m
  | [], m, h, _ => by cases h
  | [i], m, h, _ => by simp at h; exact h.symm
  | i :: j :: r, m, h, q => by
    have e : maxOf (i :: j :: r) = max i (maxOf (j :: r)) := rfl
    rw [e]
    have hi := q i List.mem_cons_self
    rcases List.mem_cons.mp h with rfl | h
    · -- the rest is below
      have : ∀ {l : List Int}, l ≠ [] → (∀ y, y ∈ l → y ≤ m) → maxOf l ≤ m := by
        intro l
        induction l with
        | nil => intro n; exact absurd rfl n
        | cons a t ih =>
          intro _ hq
          cases t with
          | nil => exact hq a List.mem_cons_self
          | cons b u =>
            have := ih (by simp) fun y hy => hq y (List.mem_cons_of_mem _ hy)
            have := hq a List.mem_cons_self
            show max a (maxOf (b :: u)) ≤ m
            omega
      have := this (l := j :: r) (by simp) fun y hy => q y (List.mem_cons_of_mem _ hy)
      omega
    · have := maxOf_eq (ns := j :: r) h fun y hy => q y (List.mem_cons_of_mem _ hy)
      omega
theorem minOf_eq : ∀ {ns : List Int} {m : Int}, m ∈ ns → (∀ y, y ∈ ns → m ≤ y) → minOf ns = m
  | [], m, h, _ => by cases h
  | [i], m, h, _ => by simp at h; exact h.symm
  | i :: j :: r, m, h, q => by
    have e : minOf (i :: j :: r) = min i (minOf (j :: r)) := rfl
    rw [e]
    have hi := q i List.mem_cons_self
    rcases List.mem_cons.mp h with rfl | h
    · have : ∀ {l : List Int}, l ≠ [] → (∀ y, y ∈ l → m ≤ y) → m ≤ minOf l := by
        intro l
        induction l with
        | nil => intro n; exact absurd rfl n
        | cons a t ih =>
          intro _ hq
          cases t with
          | nil => exact hq a List.mem_cons_self
          | cons b u =>
            have := ih (by simp) fun y hy => hq y (List.mem_cons_of_mem _ hy)
            have := hq a List.mem_cons_self
            show m ≤ min a (minOf (b :: u))
            omega
      have := this (l := j :: r) (by simp) fun y hy => q y (List.mem_cons_of_mem _ hy)
      omega
    · have := minOf_eq (ns := j :: r) h fun y hy => q y (List.mem_cons_of_mem _ hy)
      omega
def gInts (f : List Int → Option Vl) : D → Option Vl
  | .list xs => (intsOf xs).bind f
  | _ => none
def gMax : D → Option Vl := gInts fun ns => if ns = [] then none else some (.dat (.int (maxOf ns)))
def gMin : D → Option Vl := gInts fun ns => if ns = [] then none else some (.dat (.int (minOf ns)))
def gSum : D → Option Vl := gInts fun ns => some (.dat (.int ns.sum))
theorem gInts_inv {f : List Int → Option Vl} {d : D} {z : Vl} (h : gInts f d = some z) : ∃ xs ns, d = .list xs ∧ intsOf xs = some ns ∧ f ns = some z := by
  unfold gInts at h
  split at h
  · rw [Option.bind_eq_some_iff] at h
    obtain ⟨ns, e1, e2⟩ := h
    exact ⟨_, ns, rfl, e1, e2⟩
  · cases h
theorem bl_max {K : PySem.W.Frag} : Bl1 K C gMax (rMax K) := by
  intro F φ G s σ H x d z Q h ox q k
  obtain ⟨xs, ns, rfl, e1, e2⟩ := gInts_inv q
  obtain ⟨a, vs, rfl, ha, ta⟩ := ox.lst h.sub
  have ev := ta.ints e1
  subst ev
  split at e2
  · cases e2
  · rename_i hn
    cases e2
    refine ⟨a, ns, rfl, ha, List.length_pos_iff.mpr hn, fun m hm hq => ?_⟩
    have := maxOf_eq hm hq
    subst this
    exact k F φ H _ (Same.refl F) (List.prefix_refl φ) h Sh.int
theorem bl_min {K : PySem.W.Frag} : Bl1 K C gMin (rMin K) := by
  intro F φ G s σ H x d z Q h ox q k
  obtain ⟨xs, ns, rfl, e1, e2⟩ := gInts_inv q
  obtain ⟨a, vs, rfl, ha, ta⟩ := ox.lst h.sub
  have ev := ta.ints e1
  subst ev
  split at e2
  · cases e2
  · rename_i hn
    cases e2
    refine ⟨a, ns, rfl, ha, List.length_pos_iff.mpr hn, fun m hm hq => ?_⟩
    have := minOf_eq hm hq
    subst this
    exact k F φ H _ (Same.refl F) (List.prefix_refl φ) h Sh.int
theorem bl_sum {K : PySem.W.Frag} : Bl1 K C gSum (rSum K) := by
  intro F φ G s σ H x d z Q h ox q k
  obtain ⟨xs, ns, rfl, e1, e2⟩ := gInts_inv q
  obtain ⟨a, vs, rfl, ha, ta⟩ := ox.lst h.sub
  have ev := ta.ints e1
  subst ev
  cases e2
  exact ⟨a, ns, rfl, ha, k F φ H _ (Same.refl F) (List.prefix_refl φ) h Sh.int⟩

def gMaxN : List D → Option Vl
  | [.int i, .int j] => some (.dat (.int (max i j)))
  | [.int i, .int j, .int k] => some (.dat (.int (max (max i j) k)))
  | _ => none
def gMinN : List D → Option Vl
  | [.int i, .int j] => some (.dat (.int (min i j)))
  | _ => none
theorem ShA.int1 {K : PySem.W.Frag} {F : Hp} {i : Int} {ds : List D} {xs : List V} (h : ShA K F xs (.int i :: ds)) : ∃ ys, xs = .int i :: ys ∧ ShA K F ys ds := by
  obtain ⟨dp, ok⟩ := h
  have o' : PyData.canLayAll0 ds = true := by simp [PyData.canLayAll0] at ok; exact ok.2
  cases dp with
  | cons h1 h2 => cases h1; exact ⟨_, rfl, h2, o'⟩
theorem ShA.nil_inv' {K : PySem.W.Frag} {F : Hp} {xs : List V} (h : ShA K F xs []) : xs = [] := List.eq_nil_of_length_eq_zero h.len
theorem bl_maxN {K : PySem.W.Frag} : BlN K C gMaxN (fun xs H Q => (∃ i j, xs = [.int i, .int j] ∧ Q (.int (if j > i then j else i)) H) ∨ rNuC3 nuMax3 xs H Q) := by
  intro F φ G s σ H xs ds z Q h ox q k
  unfold gMaxN at q
  split at q
  · cases q
    obtain ⟨_, rfl, t1⟩ := ox.int1
    obtain ⟨_, rfl, t2⟩ := t1.int1
    obtain rfl := t2.nil_inv'
    refine .inl ⟨_, _, rfl, ?_⟩
    rename_i i j
    have : (if j > i then j else i) = max i j := by split <;> omega
    rw [this]
    exact k F φ H _ (Same.refl F) (List.prefix_refl φ) h Sh.int
  · cases q
    obtain ⟨_, rfl, t1⟩ := ox.int1
    obtain ⟨_, rfl, t2⟩ := t1.int1
    obtain ⟨_, rfl, t3⟩ := t2.int1
    obtain rfl := t3.nil_inv'
    rename_i i j l
    refine .inr ⟨_, _, _, .int (max (max i j) l), rfl, ?_, k F φ H _ (Same.refl F) (List.prefix_refl φ) h Sh.int⟩
    have e1 : nuMax2 (.int i) (.int j) = some (.int (max i j)) := by
      show some (if decide (i < j) = true then V.int j else V.int i) = _
      congr 1
      by_cases hij : i < j
      · simp [hij]; omega
      · simp [hij]; omega
    have e2 : nuMax2 (.int (max i j)) (.int l) = some (.int (max (max i j) l)) := by
      show some (if decide (max i j < l) = true then V.int l else V.int (max i j)) = _
      congr 1
      by_cases hij : max i j < l
      · have : max (max i j) l = l := by omega
        rw [this, decide_eq_true hij, if_pos rfl]
      · have : max (max i j) l = max i j := by omega
        rw [this, decide_eq_false hij, if_neg Bool.false_ne_true]
    unfold nuMax3
    rw [e1]
    exact e2
  · cases q
theorem cr_maxN (hc : X.calm = true) : CallR X (.builtin "max") (fun xs H Q => (∃ i j, xs = [.int i, .int j] ∧ Q (.int (if j > i then j else i)) H) ∨ rNuC3 nuMax3 xs H Q) := by
  intro pins s σ H xs us Q I r h
  rcases h with h | h
  · exact call_max2 hc pins s σ H xs us Q I r h
  · exact call_max3Nu hc pins s σ H xs us Q I r h
theorem bl_minN {K : PySem.W.Frag} : BlN K C gMinN (fun xs H Q => ∃ i j, xs = [.int i, .int j] ∧ Q (.int (if j < i then j else i)) H) := by
  intro F φ G s σ H xs ds z Q h ox q k
  unfold gMinN at q
  split at q
  · cases q
    obtain ⟨_, rfl, t1⟩ := ox.int1
    obtain ⟨_, rfl, t2⟩ := t1.int1
    obtain rfl := t2.nil_inv'
    refine ⟨_, _, rfl, ?_⟩
    rename_i i j
    have : (if j < i then j else i) = min i j := by split <;> omega
    rw [this]
    exact k F φ H _ (Same.refl F) (List.prefix_refl φ) h Sh.int
  · cases q

inductive Ty where | int | bool | str | tuple | list deriving DecidableEq
def Ty.nm : Ty → String
  | .int => "int" | .bool => "bool" | .str => "str" | .tuple => "tuple" | .list => "list"
def isA : Ty → D → Bool
  | .int, .int _ => true | .int, .bool _ => true
  | .bool, .bool _ => true
  | .str, .str _ => true
  | .tuple, .tuple _ => true
  | .list, .list _ => true
  | _, _ => false
def tyOf : D → Option String
  | .none => some "NoneType" | .bool _ => some "bool" | .int _ => some "int" | .str _ => some "str" | .list _ => some "list" | .tuple _ => some "tuple" | .dict _ => none
theorem Opn.ty {K : PySem.W.Frag} {F H : Hp} {x : V} {d : D} (h : Opn K F H x d) (le : Same F H) : ∃ t, tyOf d = some t ∧ TyX K H x (.type t) := by
  have z := h.sh le
  obtain ⟨dp, ok⟩ := z
  cases dp with
  | non => exact ⟨_, rfl, .base .non⟩
  | bl b => exact ⟨_, rfl, .base (.bl b)⟩
  | int b => exact ⟨_, rfl, .base (.int b)⟩
  | str b => exact ⟨_, rfl, .base (.str b)⟩
  | lst hs ha =>
    refine ⟨_, rfl, ?_⟩
    rcases hs with (h | ⟨o, h⟩) | ⟨o, its, n, h1, h2, h3, _⟩
    · exact .base (.lst h)
    · exact .base (.frz h)
    · exact .kList h1 h2
  | tup hs ha =>
    refine ⟨_, rfl, ?_⟩
    rcases hs with (h | ⟨o, h⟩) | ⟨o, its, n, h1, h2, _⟩
    · exact .base (.tup h)
    · exact .fTuple h
    · exact .kTuple h1 h2
theorem isA_kit {d : D} {t : String} {T : Ty} {K : PySem.W.Frag} (h : tyOf d = some t) : PySem.W.kitOne K (.type t) (.type T.nm) = some (isA T d) := by
  have k : ∀ {a b : String} {r : Bool}, kitB a b = some r → PySem.W.kitOne K (.type a) (.type b) = some r := fun h => kit_ty h
  cases d <;> cases h <;> cases T <;> first | exact k (r := true) (by decide +kernel) | exact k (r := false) (by decide +kernel)
def isiV (T : Ty) (la : Option Nat) (ma : Mo Vl) : Mo Vl := op1 la ma fun d => some (.dat (.bool (isA T d)))
theorem me_isi {T : Ty} {y : Str} {p2 : Pos} (hgl : Gl X "isinstance") (hm : X.mg "isinstance" = none) (ht : Gl X y) (hmt : X.mg y = none) (hy : bootBuiltins y = some (.type T.nm)) (hyn : y ≠ "__name__") (hyd : (y == ("__debug__" : Str)) = false) (ha : Opd X C W a la ma)
    (he : starEach [a, .Name y p2] X.env = (false, eval a X.env) :: starEach [.Name y p2] X.env) : PE X (.Call (.Name "isinstance" p) [a, .Name y p2] [] pos) (lif X.K C W (isiV T la ma)) := by
  refine PEwk (pe_callB call_isi hgl hm PyProof.Rows.boot_isinstance (pa_cons ha (pa_cons (pe_bltn (v := .ty T.nm) ht hmt hy rfl hyn hyd) pa_nil) he) (he := he)) fun σ H Q ⟨F, φ, G, s, h, o⟩ => ?_
  refine op1_ok (f := fun d => some (.dat (.bool (isA T d)))) h o fun F' φ' H' y' e z s' l1 l2 R1 oy q o2 => ?_
  cases q
  obtain ⟨t, h1, h2⟩ := Opn.ty oy R1.sub
  exact ⟨y', .ty T.nm, .type t, .type T.nm, isA T e, rfl, .ty T.nm, h2, isA_kit h1, o2 F' φ' H' _ (Same.refl F') (List.prefix_refl φ') R1 Sh.bl⟩
def rgD (a b : Int) : List D := (List.range (b - a).toNat).map fun i => PyData.int (a + (i : Nat))
theorem sh_rg {K : PySem.W.Frag} {F : Hp} (a b : Int) : ShA K F (rgV a b) (rgD a b) := by
  unfold rgV rgD
  have : ∀ l : List Nat, ShA K F (l.map fun i => V.int (a + (i : Nat))) (l.map fun i => PyData.int (a + (i : Nat))) := by
    intro l
    induction l with
    | nil => exact .nil
    | cons i r ih => exact .cons Sh.int ih
  exact this _
def lrgV (ma : Mo Vl) : Mo Vl := bnd ma fun r => match r with
  | .dat (.int n) => if 0 ≤ n ∧ n ≤ lim then pur (.fr (rgD 0 n)) else fun _ => .no
  | _ => fun _ => .no
end
end Gq

namespace Gq
open PySem PySem.Spec L2

def lget (i : Nat) (s : S) : Option (List D) := match s.env[i]? with
  | some (.own ds) => some ds
  | some (.hnd n) => match s.mem[n]? with
    | some (.lst ds) => some ds
    | _ => none
  | _ => none
def lput (i : Nat) (ds : List D) (s : S) : S := match s.env[i]? with
  | some (.own _) => { s with env := s.env.set i (.own ds) }
  | some (.hnd n) => { s with mem := s.mem.set n (.lst ds) }
  | _ => s
section
variable {K : PySem.W.Frag} {C : Kls} {W : WX} {F F' : Hp} {φ φ' : List Addr} {G G' : Hp} {s s' : S} {σ : L2.St} {H H' : Hp} {m : List Cell}
theorem nodup_get {l : List Addr} (nd : l.Nodup) {i j : Nat} {a : Addr} (h : l[i]? = some a) (h' : l[j]? = some a) : i = j := by
  obtain ⟨hi, e⟩ := List.getElem?_eq_some_iff.mp h
  obtain ⟨hj, e'⟩ := List.getElem?_eq_some_iff.mp h'
  exact (List.getElem_inj nd).mp (e.trans e'.symm)
theorem lget_ok {i : Nat} {ds : List D} (h : Rl K C F φ G s σ H) (e : lget i s = some ds) : ∃ a vs, σ[i]? = some (some (.ref a)) ∧ H a = some (.lst vs) ∧ ShA K F vs ds ∧
    ∀ vs' ds', ShA K F vs' ds' → Rl K C F φ G (lput i ds' s) σ (upd H a (.lst vs')) := by
  unfold lget at e
  cases q : s.env[i]? with
  | none => rw [q] at e; cases e
  | some sl =>
    rw [q] at e
    have z := h.slot i sl q
    cases sl with
    | un => cases e
    | dat _ => cases e
    | own es =>
      cases e
      obtain ⟨a, vs, e1, e2, e3, e4, e5, e6⟩ := z
      have eσ := join_some e1
      refine ⟨a, vs, eσ, e2, e3, fun vs' ds' t => ?_⟩
      have el : lput i ds' s = { s with env := s.env.set i (.own ds') } := by unfold lput; rw [q]
      rw [el]
      have hi : i < s.env.length := (List.getElem?_eq_some_iff.mp q).1
      refine ⟨⟨fun b u w => ?_, fun b u w => ?_, h.gF, h.gφ, h.fφ, h.nd, h.mlen, fun n b c w1 w2 => ?_, fun x P k z => (h.tab x P k z).updH ((h.tab x P k z).neL e2)⟩, by rw [h.len, List.length_set], fun j sl w => ?_, fun j k b o1 o2 => ?_⟩
      · rw [upd_ne (fun z => by subst z; rw [e4] at w; cases w)]; exact h.sub b u w
      · rw [upd_ne (fun z => by subst z; rw [e5] at w; cases w)]; exact h.gs b u w
      · have hb : b ≠ a := fun z => e6 (z ▸ List.mem_of_getElem? w1)
        have r := h.cell n b c w1 w2
        cases c with
        | lst _ => obtain ⟨xs, r1, r2⟩ := r; exact ⟨xs, by rw [upd_ne hb]; exact r1, r2⟩
        | ins _ _ => obtain ⟨k, dx, xs, r0, r1, r2⟩ := r; exact ⟨k, dx, xs, r0, by rw [upd_ne hb]; exact r1, r2⟩
      · by_cases hj : i = j
        · subst hj
          rw [List.getElem?_set_self hi] at w
          cases w
          exact ⟨a, vs', by rw [eσ]; rfl, upd_same, t, e4, e5, e6⟩
        · rw [List.getElem?_set_ne hj] at w
          have r := h.slot j sl w
          cases sl with
          | un => trivial
          | dat _ => exact r
          | hnd _ => exact r
          | own _ =>
            obtain ⟨b, xs, r1, r2, r3⟩ := r
            have hb : b ≠ a := by
              rintro rfl
              exact hj (h.apart i j b ⟨⟨_, q⟩, eσ⟩ ⟨⟨_, w⟩, join_some r1⟩)
            exact ⟨b, xs, r1, by rw [upd_ne hb]; exact r2, r3⟩
      · have back : ∀ {j}, OwnAt (s.env.set i (.own ds')) σ j b → OwnAt s.env σ j b := fun {j} ⟨⟨fs, w⟩, w2⟩ => by
          by_cases hj : i = j
          · subst hj; exact ⟨⟨_, q⟩, w2⟩
          · rw [List.getElem?_set_ne hj] at w; exact ⟨⟨fs, w⟩, w2⟩
        exact h.apart j k b (back o1) (back o2)
    | hnd n =>
      dsimp only at e
      obtain ⟨a, e1, e2⟩ := z
      cases q2 : s.mem[n]? with
      | none => rw [q2] at e; cases e
      | some c =>
        rw [q2] at e
        have w := h.cell n a c e2 q2
        cases c with
        | ins _ _ => cases e
        | lst es =>
          cases e
          obtain ⟨vs, w1, w2⟩ := w
          have eσ := join_some e1
          refine ⟨a, vs, eσ, w1, w2, fun vs' ds' t => ?_⟩
          have el : lput i ds' s = { s with mem := s.mem.set n (.lst ds') } := by unfold lput; rw [q]
          rw [el]
          have ha : a ∈ φ := List.mem_of_getElem? e2
          have hn : n < s.mem.length := (List.getElem?_eq_some_iff.mp q2).1
          refine ⟨⟨fun b u w => ?_, fun b u w => ?_, h.gF, h.gφ, h.fφ, h.nd, by rw [List.length_set]; exact h.mlen, fun k b c u1 u2 => ?_, fun x P k z => (h.tab x P k z).updH ((h.tab x P k z).neL w1)⟩, h.len, fun j sl w => ?_, h.apart⟩
          · rw [upd_ne (fun z => by subst z; rw [h.fφ _ ha] at w; cases w)]; exact h.sub b u w
          · rw [upd_ne (fun z => by subst z; exact h.gφ _ u w ha)]; exact h.gs b u w
          · by_cases hk : n = k
            · subst hk
              rw [List.getElem?_set_self hn] at u2
              cases u2
              rw [e2] at u1
              cases u1
              exact ⟨vs', upd_same, t⟩
            · rw [List.getElem?_set_ne hk] at u2
              have hb : b ≠ a := by
                rintro rfl
                exact hk (nodup_get h.nd e2 u1)
              have r := h.cell k b c u1 u2
              cases c with
              | lst _ => obtain ⟨xs, r1, r2⟩ := r; exact ⟨xs, by rw [upd_ne hb]; exact r1, r2⟩
              | ins _ _ => obtain ⟨k, dx, xs, r0, r1, r2⟩ := r; exact ⟨k, dx, xs, r0, by rw [upd_ne hb]; exact r1, r2⟩
          · have r := h.slot j sl w
            cases sl with
            | un => trivial
            | dat _ => exact r
            | hnd _ => exact r
            | own _ =>
              obtain ⟨b, xs, r1, r2, r3, r4, r5, r6⟩ := r
              have hb : b ≠ a := fun z => r6 (z ▸ ha)
              exact ⟨b, xs, r1, by rw [upd_ne hb]; exact r2, r3, r4, r5, r6⟩
def mutV (i : Nat) (m : Mo (List Vl)) (f : List D → List D → Option (List D × D)) : Mo Vl := fun s => match lget i s with
  | none => .no
  | some _ => (m s).bind fun rs s' => match datsOf rs, lget i s' with
    | some as, some ds => match f ds as with
      | some (ds', r) => .ok (.dat r) (lput i ds' s')
      | none => .no
    | _, _ => .no
def MuS (K : PySem.W.Frag) (f : List D → List D → Option (List D × D)) (r : V → List V → Hp → VK → Prop) : Prop :=
  ∀ (F H : Hp) (l : Addr) (xs vs : List V) (ds as ds' : List D) (z : D) (Q : VK), Same F H → H l = some (.lst xs) → ShA K F xs ds → ShA K F vs as → f ds as = some (ds', z) →
    (∀ xs' v', ShA K F xs' ds' → Sh K F v' z → Q v' (upd H l (.lst xs'))) → r (.ref l) vs H Q
theorem mut_ok {i : Nat} {ms : Mo (List Vl)} {f : List D → List D → Option (List D × D)} {r : V → List V → Hp → VK → Prop} {Q : VK} (hm : MuS K f r) (h : Rl K C F φ G s σ H) (o : OutE K C W F φ G σ Q (mutV i ms f s)) :
    tBM K "list" r (tVar i) (lifA K C W ms) σ H Q := by
  unfold mutV at o
  cases e0 : lget i s with
  | none => rw [e0] at o; exact o.elim
  | some d0 =>
    rw [e0] at o
    obtain ⟨a, vs0, h1, h2, h3, _⟩ := lget_ok h e0
    refine ⟨.ref a, h1, .inl ⟨rfl, vs0, SqL.of h2⟩, ?_⟩
    refine lifA_bindE (f := ms) (g := fun rs s' => match datsOf rs, lget i s' with
      | some as, some ds => match f ds as with
        | some (ds', r) => .ok (.dat r) (lput i ds' s')
        | none => .no
      | _, _ => .no) h (Q := Q) o fun F' φ' H' vs rs s' l1 l2 R1 o1 q => ?_
    cases e1 : datsOf rs with
    | none => rw [e1] at q; exact q.elim
    | some as =>
      cases e2 : lget i s' with
      | none => rw [e1, e2] at q; exact q.elim
      | some ds =>
        rw [e1, e2] at q
        dsimp only at q
        obtain ⟨b, xs, k1, k2, k3, k4⟩ := lget_ok R1 e2
        rw [h1] at k1
        cases k1
        cases e3 : f ds as with
        | none => rw [e3] at q; exact q.elim
        | some p =>
          obtain ⟨ds', z⟩ := p
          rw [e3] at q
          refine hm F' H' a xs vs ds as ds' z Q R1.sub k2 k3 (o1.dats e1) e3 fun xs' v' t tz => ?_
          exact q F' φ' _ v' (Same.refl F') (List.prefix_refl φ') (k4 xs' ds' t) tz
end
def fAppend (ds : List D) : List D → Option (List D × D)
  | [d] => if ds.length < lim then some (ds ++ [d], .none) else none
  | _ => none
def fPop (ds : List D) : List D → Option (List D × D)
  | [.int i] => if ds.length ≤ lim then (ixN ds.length i).bind fun k => (ds[k]?).map fun z => (ds.eraseIdx k, z) else none
  | _ => none
theorem ShA.one_inv {K : PySem.W.Frag} {F : Hp} {d : D} {xs : List V} (h : ShA K F xs [d]) : ∃ v, xs = [v] ∧ Sh K F v d := by
  obtain ⟨dp, ok⟩ := h
  have o' : d.canLay0 = true := by simp [PyData.canLayAll0] at ok; exact ok
  cases dp with
  | cons h1 h2 => cases h2; exact ⟨_, rfl, h1, o'⟩
theorem mu_append {K : PySem.W.Frag} : MuS K fAppend rAppend := by
  intro F H l xs vs ds as ds' z Q le e t ta q k
  unfold fAppend at q
  split at q
  · split at q
    · rename_i hz
      cases q
      obtain ⟨v, rfl, hv⟩ := ta.one_inv
      exact ⟨l, xs, v, rfl, rfl, e, by rw [t.len]; exact Nat.lt_of_lt_of_le hz lim_le, k _ _ (t.app (.one hv)) Sh.non⟩
    · cases q
  · cases q
theorem ShA.era {K : PySem.W.Frag} {F : Hp} : ∀ {vs : List V} {ds : List D} (k : Nat), ShA K F vs ds → ShA K F (vs.eraseIdx k) (ds.eraseIdx k) := fun {vs ds} k h => by
  rw [List.eraseIdx_eq_take_drop_succ, List.eraseIdx_eq_take_drop_succ]
  exact (h.tak k).app (h.drp (k + 1))
theorem mu_pop {K : PySem.W.Frag} : MuS K fPop rPopAt := by
  intro F H l xs vs ds as ds' z Q le e t ta q k
  unfold fPop at q
  split at q
  · rename_i i
    split at q
    · rename_i hz
      obtain ⟨v, rfl, hv⟩ := ta.one_inv
      have ev := hv.int_inv
      subst ev
      rw [Option.bind_eq_some_iff] at q
      obtain ⟨j, q1, q2⟩ := q
      rw [Option.map_eq_some_iff] at q2
      obtain ⟨z', q3, q4⟩ := q2
      cases q4
      obtain ⟨v, k1, k2⟩ := t.at q3
      have hl := t.len
      rw [← hl] at q1
      obtain ⟨g1, g2, g3, g4⟩ := ixN_seq q1
      have hz' : ds.length ≤ 1000000 := hz
      exact ⟨l, xs, i, j, v, rfl, rfl, e, by omega, by omega, g1, k1, k _ _ (t.era j) k2⟩
    · cases q
  · cases q
def fExtend (ds : List D) : List D → Option (List D × D)
  | [.list es] => if ds.length + es.length ≤ lim then some (ds ++ es, .none) else none
  | _ => none
def rExtendL (K : PySem.W.Frag) : V → List V → Hp → VK → Prop := fun x vs H Q => ∃ l b xs zs, x = .ref l ∧ vs = [.ref b] ∧ H l = some (.lst xs) ∧ SqL K H b zs ∧ xs.length + zs.length ≤ sizeLine ∧ Q .non (upd H l (.lst (xs ++ zs)))
theorem mu_extend {K : PySem.W.Frag} : MuS K fExtend (rExtendL K) := by
  intro F H l xs vs ds as ds' z Q le e t ta q k
  unfold fExtend at q
  split at q
  · split at q
    · rename_i hz
      cases q
      obtain ⟨v, rfl, hv⟩ := ta.one_inv
      obtain ⟨b, ws, rfl, hb, tb⟩ := hv.lst_inv
      exact ⟨l, b, xs, ws, rfl, rfl, e, le.seq hb, by rw [t.len, tb.len]; exact Nat.le_trans hz lim_le, k _ _ (t.app tb) Sh.non⟩
    · cases q
  · cases q
section
open PySem.AutoSeq1
theorem list_extendW (l : Addr) (items : Array Value) (n : Nat) (b : Addr) (items2 : Array Value) (n2 : Nat) (sl2 : Array (Option Value)) (hc0 : ¬(!items.isEmpty && Builtin.List.listTooLong (items.size + items2.size)) = true) (hc1 : items.size ≤ sizeLine) (hs2 : items.size + items2.size ≤ sizeLine + 1) :
    Meets (Builtin.«list.extend» ⟨[.ref l, .ref b], []⟩) (fun _ R s => s.heap.get? l = some { cls := .type "list", dict := none, data := .seq items n, slots := #[] } ∧ s.heap.get? b = some { cls := .type "list", dict := none, data := .seq items2 n2, slots := sl2 } ∧ R (.ok (.ret Value.none)) { s with heap := s.heap.update l (Obj.mapSeq fun x => x ++ items2), toks := s.toks }) :=
  .of_wp fun prog w A R s h => by
    obtain ⟨hp, g, d, tk, os⟩ := s; obtain ⟨hl, hb, h⟩ := h; have f1 := idx_int; have f2 := sub_tuple_tuple; have f3 := sub_list_list; have f4 := sub_tuple_list; have f5 := sub_list_tuple;
    have hz' : (items ++ items2).size ≤ sizeLine + 1 := by rw [Array.size_append]; exact hs2
    wp_walk using (wpAny_updateSeq hl rfl (hz := hc1) (_hz' := hz')), wpAny_loadPart' hl, wpAny_loadPart' hb; exact ⟨_, rfl, h⟩
end
theorem mt_extendL {X : Cx} : MtM X "list.extend" (rExtendL X.K) := by
  intro pins s σ H x vs v us Q I rx rv h
  obtain ⟨l, b, xs, zs, rfl, rfl, hH, hB, hz, q⟩ := h
  cases rx
  obtain ⟨u, rfl, ru⟩ := rv.one
  cases ru
  obtain ⟨z, its, n, r, hl, e⟩ := I.lstM hH
  obtain ⟨its2, r2, ⟨⟨cls2, dd2, data2, sl2⟩, n2, e2, hc2, hd02, hd2⟩, hs2⟩ := I.list hB
  simp only at hc2 hd2 hd02
  subst hc2 hd2 hd02
  have hl2 := r2.length
  have hsz : its.toArray.size + its2.toArray.size ≤ sizeLine := by rw [List.size_toArray, List.size_toArray]; omega
  have hlong : ¬ (!its.toArray.isEmpty && Builtin.List.listTooLong (its.toArray.size + its2.toArray.size)) = true := by
    rw [notLongL hsz, Bool.and_false]
    exact Bool.false_ne_true
  refine call_meets PySem.F.slot_list_extend ⟨_, e, rfl⟩ PySem.F.entry_list_extend (PySem.F.args_list_extend_2 _ _)
    (list_extendW l its.toArray n b its2.toArray n2 sl2 hlong (by rw [List.size_toArray]; omega) (by omega)) ⟨e, e2, ?_⟩
  refine ⟨.non, _, I.lset (its' := its ++ its2) hH e (by simp) (r.append r2) ?_, rfl, q⟩
  rw [List.length_append]
  omega
section
variable {X : Cx} {C : Kls} {W : WX} {a b e : Expr} {es : List Expr} {la lb : Option Nat} {ma mb : Mo Vl} {ms : List (Mo Vl)} {m : Mo (List Vl)} {pos p apos cpos : Pos} {x : Str} {id T : String} {r : List V → Hp → VK → Prop}
theorem me_mut {i : Nat} {o : Expr} {nm : Str} {id : String} {f : List D → List D → Option (List D × D)} {r : V → List V → Hp → VK → Prop} (hm : MuS X.K f r) (slot : Slot "list" nm id) (hty : typeOf (.builtin id) = pure (.type "method_descriptor")) (hr : MtR X id r) (ho : PE X o (tVar i)) (ha : PA X (e :: es) (lifA X.K C W m))
    (hbase : attributeBase o nm X.env (eval o X.env) = eval o X.env)
    (hfew : ((backTo cpos (starEach (e :: es) X.env)).all (fun x => !x.1) && (backToKw cpos (keywordEach [] X.env)).all (fun x => x.1.isSome)
      && decide ((e :: es).length + ([] : List Keyword).length + (if ([] : List Keyword).isEmpty then 0 else 1) < 30)) = true)
    (hline : (apos.endLine == cpos.line) = true) (hs : starEach (e :: es) X.env = (false, eval e X.env) :: starEach es X.env) (hplain : (backTo cpos (starEach es X.env)).any (·.1) = false) :
    PE X (.Call (.Attribute o nm apos) (e :: es) [] cpos) (lif X.K C W (mutV i m f)) :=
  PEwk (pe_bm PySem.F.plainAttrs_list slot hty hr ho ha hbase hfew hline hs hplain) fun _ _ _ ⟨_, _, _, _, h, o⟩ => mut_ok hm h o

def bSl : D → Option Int → Option Int → Option Vl
  | .list xs, lo, hi => some (.fr ((xs.drop (HT.sIx xs.length 0 lo)).take (HT.sIx xs.length xs.length hi - HT.sIx xs.length 0 lo)))
  | .tuple xs, lo, hi => some (.dat (.tuple ((xs.drop (HT.sIx xs.length 0 lo)).take (HT.sIx xs.length xs.length hi - HT.sIx xs.length 0 lo))))
  | _, _, _ => none
def rSlU (K : PySem.W.Frag) : V → Option Int → Option Int → Hp → VK → Prop := fun x lo hi H Q => rSlL K x lo hi H Q ∨ rSlA K x lo hi H Q
theorem sl_any : SlR X (rSlU X.K) := sl_list.or sl_tupA
theorem bSl_ok {K : PySem.W.Frag} {F : Hp} {φ : List Addr} {G : Hp} {s : S} {σ : L2.St} {H : Hp} {Q : VK} {x : V} {d : D} {lo hi : Option Int} (h : Rl K C F φ G s σ H) (ox : Opn K F H x d) (o : OutE K C W F φ G σ Q (opt (bSl d lo hi) s)) :
    rSlU K x lo hi H Q := by
  cases d <;> first | exact o.elim | skip
  · rename_i xs
    obtain ⟨a, vs, rfl, ha, ta⟩ := ox.lst h.sub
    refine .inl ⟨a, vs, rfl, ha, fun p hp => ?_⟩
    have t2 : ShA K F (cutV vs lo hi) ((xs.drop (HT.sIx xs.length 0 lo)).take (HT.sIx xs.length xs.length hi - HT.sIx xs.length 0 lo)) := by
      unfold cutV
      rw [ta.len]
      exact (ta.drp _).tak _
    obtain ⟨h1, h2⟩ := h.newL hp t2
    exact o F φ _ _ (Same.refl F) (List.prefix_refl φ) h1 h2
  · rename_i xs
    obtain ⟨a, vs, rfl, ha, ta⟩ := ox.tup
    have t2 : ShA K F (cutV vs lo hi) ((xs.drop (HT.sIx xs.length 0 lo)).take (HT.sIx xs.length xs.length hi - HT.sIx xs.length 0 lo)) := by
      unfold cutV
      rw [ta.len]
      exact (ta.drp _).tak _
    refine .inr ⟨a, vs, rfl, Same.seqT h.sub ha, fun hw => ?_, fun _ p hp => ?_⟩
    · have ew : (xs.drop (HT.sIx xs.length 0 lo)).take (HT.sIx xs.length xs.length hi - HT.sIx xs.length 0 lo) = xs := by
        rw [ta.len] at hw
        rw [hw.1, hw.2]
        simp
      have o' : OutE K C W F φ G σ Q (.ok (.dat (.tuple ((xs.drop (HT.sIx xs.length 0 lo)).take (HT.sIx xs.length xs.length hi - HT.sIx xs.length 0 lo)))) s) := o
      rw [ew] at o'
      exact o' F φ H _ (Same.refl F) (List.prefix_refl φ) h (.tup ha ta)
    · obtain ⟨h0, h1, h2⟩ := h.newT hp t2
      exact o _ φ _ _ h0 (List.prefix_refl φ) h1 h2
def prtV : Option (Mo Vl) → Mo (Option Int)
  | none => pur none
  | some m => bnd m fun r => match r with
    | .dat (.int i) => pur (some i)
    | _ => fun _ => .no
def slV (la : Option Nat) (ma : Mo Vl) (lo hi : Option (Mo Vl)) : Mo Vl := match la with
  | some i => bnd (peek i) fun _ => bnd (prtV lo) fun l => bnd (prtV hi) fun h => bnd (peek i) fun x => opt (bSl x l h)
  | none => bnd ma fun r => bnd (opt (asD r)) fun x => bnd (prtV lo) fun l => bnd (prtV hi) fun h => opt (bSl x l h)
def PrtOk (X : Cx) (C : Kls) (W : WX) (e : Option Expr) (t : TO) (m : Option (Mo Vl)) : Prop := PO X e t ∧ ∀ (F : Hp) (φ : List Addr) (G : Hp) (s : S) (σ : L2.St) (H : Hp) (Q : VK) (g : Option Int → Mo Vl) (R : Option Int → Hp → Prop), Rl X.K C F φ G s σ H →
  OutE X.K C W F φ G σ Q (bnd (prtV m) g s) → (∀ F' φ' H' o s', Same F F' → φ <+: φ' → Rl X.K C F' φ' G s' σ H' → OutE X.K C W F' φ' G σ Q (g o s') → R o H') → t σ H R
theorem prt_none : PrtOk X C W none tNoPart none :=
  ⟨po_none, fun F φ G s σ H Q g R h o k => k F φ H none s (Same.refl F) (List.prefix_refl φ) h o⟩
theorem prt_some (h : PE X e (lif X.K C W ma)) : PrtOk X C W (some e) (tPart (lif X.K C W ma)) (some ma) := by
  refine ⟨po_some h, fun F φ G s σ H Q g R h o k => ?_⟩
  refine lif_bind (f := ma) (g := fun r => bnd (match r with
    | .dat (.int i) => pur (some i)
    | _ => fun _ => .no) g) h (Q := Q) ?_ fun F' φ' H' v r s' l1 l2 R1 o1 q => ?_
  · have : bnd (prtV (some ma)) g s = (ma s).bind fun r => bnd (match r with
      | .dat (.int i) => pur (some i)
      | _ => fun _ => .no) g := by
        show ((ma s).bind _).bind g = _
        cases ma s <;> rfl
    rw [this] at o
    exact o
  · cases r with
    | dat d =>
      cases d <;> first | exact q.elim | skip
      exact ⟨_, o1.int_inv, k F' φ' H' _ s' l1 l2 R1 q⟩
    | fr _ => exact q.elim
    | hnd _ => exact q.elim
theorem me_sl {lo hi : Option Expr} {tl th : TO} {ml mh : Option (Mo Vl)} {p2 : Pos} (ha : Opd X C W a la ma) (hl : PrtOk X C W lo tl ml) (hh : PrtOk X C W hi th mh) : PE X (.Subscript a (.Slice lo hi none p2) pos) (lif X.K C W (slV la ma ml mh)) := by
  refine PEwk (pe_slice sl_any ha hl.1 hh.1) fun σ H Q ⟨F, φ, G, s, h, o⟩ => ?_
  cases la with
  | some i =>
    rcases peek_cases i s with ⟨d0, e0⟩ | e0
    · obtain ⟨_, v, hv, ov⟩ := peek_ok h e0
      have o' : OutE X.K C W F φ G σ Q (bnd (prtV ml) (fun l => bnd (prtV mh) fun h => bnd (peek i) fun x => opt (bSl x l h)) s) := by
        have : slV (some i) ma ml mh s = bnd (prtV ml) (fun l => bnd (prtV mh) fun h => bnd (peek i) fun x => opt (bSl x l h)) s := bnd_ok e0
        rwa [this] at o
      refine ⟨v, hv, hl.2 F φ G s σ H Q _ _ h o' fun F1 φ1 H1 lo s1 l1 l2 R1 q1 => ?_⟩
      refine hh.2 F1 φ1 G s1 σ H1 Q _ _ R1 q1 fun F2 φ2 H2 hi s2 l3 l4 R2 q2 => ?_
      rcases peek_cases i s2 with ⟨d, e1⟩ | e1
      · obtain ⟨_, v', hv', ov'⟩ := peek_ok R2 e1
        rw [hv] at hv'
        cases hv'
        rw [bnd_ok e1] at q2
        exact bSl_ok R2 ov' q2
      · rw [bnd_no e1] at q2; exact q2.elim
    · have : slV (some i) ma ml mh s = .no := bnd_no e0
      rw [this] at o; exact o.elim
  | none =>
    refine lif_bind (f := ma) (g := fun r => bnd (opt (asD r)) fun x => bnd (prtV ml) fun l => bnd (prtV mh) fun h => opt (bSl x l h)) h (Q := Q) o (fun F1 φ1 H1 v r1 s1 l1 l2 R1 o1 q => ?_)
    cases r1 with
    | dat d =>
      refine hl.2 F1 φ1 G s1 σ H1 Q (fun l => bnd (prtV mh) fun h => opt (bSl d l h)) _ R1 q fun F2 φ2 H2 lo s2 l3 l4 R2 q2 => ?_
      refine hh.2 F2 φ2 G s2 σ H2 Q _ _ R2 q2 fun F3 φ3 H3 hi s3 l5 l6 R3 q3 => ?_
      exact bSl_ok R3 (.inl (Sh.mono (l3.trans l5) o1)) q3
    | fr ds =>
      obtain ⟨p, vs, rfl, e2, e3, e4, e5, e6, e7⟩ := id o1
      obtain ⟨lg, R1'⟩ := R1.protect o1 e2
      refine hl.2 F1 φ1 (upd G p (.lst vs)) s1 σ H1 Q (fun l => bnd (prtV mh) fun h => opt (bSl (.list ds) l h)) _ R1' (OutE.more (show OutE X.K C W F1 φ1 G σ Q (bnd (prtV ml) (fun l => bnd (prtV mh) fun h => opt (bSl (.list ds) l h)) s1) from q) lg) fun F2 φ2 H2 lo s2 l3 l4 R2 q2 => ?_
      refine hh.2 F2 φ2 _ s2 σ H2 Q _ _ R2 q2 fun F3 φ3 H3 hi s3 l5 l6 R3 q3 => ?_
      exact bSl_ok R3 (.inr ⟨p, vs, ds, rfl, rfl, R3.gs _ _ upd_same, e3.mono (l3.trans l5)⟩) q3
    | hnd n => exact q.elim
end
end Gq

namespace Gq
open PySem PySem.Spec L2

section
variable {K : PySem.W.Frag} {C : Kls} {W : WX} {F F' : Hp} {φ φ' : List Addr} {G G' : Hp} {s s' : S} {σ : L2.St} {H H' : Hp} {m : List Cell}
theorem get_snoc {α : Type} {l : List α} {x : α} {n : Nat} {a : α} (h : (l ++ [x])[n]? = some a) : (n < l.length ∧ l[n]? = some a) ∨ (n = l.length ∧ a = x) := by
  by_cases hn : n < l.length
  · rw [List.getElem?_append_left hn] at h; exact .inl ⟨hn, h⟩
  · rw [List.getElem?_append_right (by omega)] at h
    cases e : n - l.length with
    | zero => rw [e] at h; simp at h; exact .inr ⟨by omega, h.symm⟩
    | succ k => rw [e] at h; simp at h
theorem Rl.toH {p : Addr} {c : Cell} (h : Rl K C F φ G s σ H) (hc : CellOk K C F H p c) (hF : F p = none) (hG : G p = none) (hφ : p ∉ φ) (ho : ∀ i, ¬ OwnAt s.env σ i p) : Rl K C F (φ ++ [p]) G { s with mem := s.mem ++ [c] } σ H := by
  refine ⟨⟨h.sub, h.gs, h.gF, fun b u w hm => ?_, fun b hb => ?_, ?_, by rw [List.length_append, List.length_append, h.mlen]; rfl, fun n a d e1 e2 => ?_, h.tab⟩, h.len, fun i sl e => ?_, h.apart⟩
  · rcases List.mem_append.mp hm with z | z
    · exact h.gφ b u w z
    · rw [List.mem_singleton] at z; subst z; rw [hG] at w; cases w
  · rcases List.mem_append.mp hb with z | z
    · exact h.fφ b z
    · rw [List.mem_singleton] at z; subst z; exact hF
  · rw [List.nodup_append]
    exact ⟨h.nd, by simp, fun a ha b hb => by rw [List.mem_singleton] at hb; subst hb; rintro rfl; exact hφ ha⟩
  · rcases get_snoc e1 with ⟨hn, e1⟩ | ⟨hn, rfl⟩
    · rw [h.mlen] at hn
      have e2 : (s.mem ++ [c])[n]? = some d := e2
      rw [List.getElem?_append_left hn] at e2
      exact h.cell n a d e1 e2
    · have e2 : (s.mem ++ [c])[n]? = some d := e2
      rw [hn, h.mlen, List.getElem?_append_right (Nat.le_refl _)] at e2
      simp at e2
      subst e2
      exact hc
  · have r := h.slot i sl e
    cases sl with
    | un => trivial
    | dat _ => exact r
    | own _ =>
      obtain ⟨b, xs, r1, r2, r3, r4, r5, r6⟩ := r
      refine ⟨b, xs, r1, r2, r3, r4, r5, fun hm => ?_⟩
      rcases List.mem_append.mp hm with z | z
      · exact r6 z
      · rw [List.mem_singleton] at z; subst z; exact ho i ⟨⟨_, e⟩, join_some r1⟩
    | hnd k => obtain ⟨b, r1, r2⟩ := r; exact ⟨b, r1, pre_get (List.prefix_append _ _) r2⟩
end
def han (m : Mo Vl) : Mo Vl := bnd m fun r => fun s => match r with
  | .fr ds => .ok (.hnd s.mem.length) { s with mem := s.mem ++ [.lst ds] }
  | _ => .no
def cellOf (i : Nat) (c : Str) (s : S) : Option (Nat × List (Str × D)) := match s.env[i]? with
  | some (.hnd n) => match s.mem[n]? with
    | some (.ins c' fs) => if c' = c then some (n, fs) else none
    | _ => none
  | _ => none
def eFld (c : Str) (i : Nat) (f : Str) : Mo Vl := fun s => match cellOf i c s with
  | some (_, fs) => match fs.lookup f with
    | some d => .ok (.dat d) s
    | none => .no
  | none => .no
section
variable {X : Cx} {C : Kls} {W : WX} {a b e : Expr} {es : List Expr} {la lb : Option Nat} {ma mb : Mo Vl} {ms : List (Mo Vl)} {m : Mo (List Vl)} {pos p apos cpos : Pos} {x : Str} {id T : String} {r : List V → Hp → VK → Prop}
theorem me_han (h : PE X e (lif X.K C W ma)) : PE X e (lif X.K C W (han ma)) := by
  refine PEwk h fun σ H Q ⟨F, φ, G, s, R, o⟩ => ?_
  refine lif_bind (f := ma) R (Q := Q) o fun F' φ' H' v r s' l1 l2 R1 o1 q => ?_
  cases r with
  | dat _ => exact q.elim
  | hnd _ => exact q.elim
  | fr ds =>
    obtain ⟨p, vs, rfl, e2, e3, e4, e5, e6, e7⟩ := o1
    exact q F' (φ' ++ [p]) H' _ (Same.refl F') (List.prefix_append _ _) (R1.toH (c := .lst ds) ⟨vs, e2, e3⟩ e4 e5 e6 e7) ⟨p, rfl, by rw [← R1.mlen]; simp⟩
theorem me_lrg {p2 pos2 : Pos} (hc : X.calm = true) (hg : Gl X "list") (hm : X.mg "list" = none) (hg2 : Gl X "range") (hm2 : X.mg "range" = none) (ha : PE X a (lif X.K C W ma)) (na : starEach [a] X.env = (false, eval a X.env) :: starEach [] X.env) :
    PE X (.Call (.Name "list" p) [.Call (.Name "range" p2) [a] [] pos2] [] pos) (lif X.K C W (lrgV ma)) := by
  refine PEwk (pe_listRg hc hg hm (prg_1 hg2 hm2 ha na) (by rfl)) fun σ H Q ⟨F, φ, G, s, R, o⟩ => ?_
  refine lif_bind (f := ma) R (Q := Q) o fun F' φ' H' v r s' l1 l2 R1 o1 q => ?_
  cases r with
  | fr _ => exact q.elim
  | hnd _ => exact q.elim
  | dat d =>
    cases d <;> first | exact q.elim | skip
    rename_i n
    dsimp only at q
    split at q
    · rename_i hn
      have := o1.int_inv
      subst this
      have hn2 : n ≤ 1000000 := hn.2
      refine ⟨n, rfl, RgOk.of_le (Int.le_refl 0) (by omega) (by omega) hn.1, fun l hl => ?_⟩
      obtain ⟨h1, h2⟩ := R1.newL hl (sh_rg (K := X.K) (F := F') 0 n)
      exact q F' φ' _ _ (Same.refl F') (List.prefix_refl φ') h1 h2
    · exact q.elim
theorem cellOf_ok {K : PySem.W.Frag} {F : Hp} {φ : List Addr} {G : Hp} {s : S} {σ : L2.St} {H : Hp} {i n : Nat} {c : Str} {fs : List (Str × D)} (h : Rl K C F φ G s σ H) (e : cellOf i c s = some (n, fs)) :
    ∃ a k dx vs, σ[i]? = some (some (.ref a)) ∧ s.env[i]? = some (.hnd n) ∧ φ[n]? = some a ∧ s.mem[n]? = some (.ins c fs) ∧ C c = some k ∧ H a = some (.ins k dx vs) ∧ FldOk K F vs fs := by
  unfold cellOf at e
  cases q : s.env[i]? with
  | none => rw [q] at e; cases e
  | some sl =>
    rw [q] at e
    cases sl with
    | hnd n' =>
      dsimp only at e
      cases q2 : s.mem[n']? with
      | none => rw [q2] at e; cases e
      | some d =>
        rw [q2] at e
        cases d with
        | lst _ => cases e
        | ins c' fs' =>
          dsimp only at e
          split at e
          · rename_i hc
            cases e
            subst hc
            obtain ⟨a, e1, e2⟩ := h.slot i _ q
            obtain ⟨k, dx, vs, k1, k2, k3⟩ := h.cell n a _ e2 q2
            exact ⟨a, k, dx, vs, join_some e1, rfl, e2, q2, k1, k2, k3⟩
          · cases e
    | _ => cases e
theorem FldOk.look {K : PySem.W.Frag} {F : Hp} {f : Str} : ∀ {vs : List (Str × V)} {fs : List (Str × D)}, FldOk K F vs fs → (∀ d, fs.lookup f = some d → ∃ v, vs.lookup f = some v ∧ Sh K F v d) ∧ (fs.lookup f = none → vs.lookup f = none)
  | [], [], _ => ⟨fun d e => by simp at e, fun _ => rfl⟩
  | (g, v) :: r, (g', d) :: t, ⟨e, h, q⟩ => by
    subst e
    obtain ⟨k1, k2⟩ := FldOk.look (f := f) q
    rw [List.lookup_cons, List.lookup_cons]
    cases f == g with
    | true => exact ⟨fun d' e => by cases e; exact ⟨v, rfl, h⟩, fun e => nomatch e⟩
    | false => exact ⟨k1, k2⟩
  | [], _ :: _, h => h.elim
  | _ :: _, [], h => h.elim
theorem me_fld {i : Nat} {c f : Str} (hcl : ∀ k, C c = some k → Cls X.K k ∧ NoAttr X.K k f) (h : PE X e (tVar i)) (hb : attributeBase e f X.env (eval e X.env) = eval e X.env) : PE X (.Attribute e f pos) (lif X.K C W (eFld c i f)) := by
  refine PEwk (pe_fld h hb) fun σ H Q ⟨F, φ, G, s, R, o⟩ => ?_
  unfold eFld at o
  cases q : cellOf i c s with
  | none => rw [q] at o; exact o.elim
  | some nf =>
    obtain ⟨n, fs⟩ := nf
    rw [q] at o
    dsimp only at o
    obtain ⟨a, k, dx, vs, k1, _, k2, k3, k4, k5, k6⟩ := cellOf_ok R q
    cases q2 : fs.lookup f with
    | none => rw [q2] at o; exact o.elim
    | some d =>
      rw [q2] at o
      obtain ⟨v, w1, w2⟩ := (FldOk.look k6).1 d q2
      obtain ⟨c1, c2⟩ := hcl k k4
      exact ⟨.ref a, k1, a, k, dx, vs, v, rfl, k5, c1, c2, w1, o F φ H v (Same.refl F) (List.prefix_refl φ) R w2⟩
def mthV (c mn : Str) (i : Nat) (f : Fn) (m : Mo (List Vl)) : Mo Vl := fun s => match cellOf i c s with
  | none => .no
  | some (n, fs) => match fs.lookup mn with
    | some _ => .no
    | none => (m s).bind fun rs s => match f (.hnd n :: rs) s.mem with
      | .ok r s' => .ok r { s with mem := s'.mem }
      | .exc c fs s' => .exc c fs { s with mem := s'.mem }
      | .no => .no
structure MtAt (X : Cx) (C : Kls) (n : Nat) (c mn : Str) (f : Fn) : Prop where
  ex : ∀ k, C c = some k → ∃ (g : Addr) (fd : FuncData) (ps : List Str), Cls X.K k ∧ Meth X.K k mn g ∧ FnOk X.prog X.w X.K X.mg X.base (L2.CX X.prog X.w) n g fd ps (spE X.K C f) ∧ Binds X.K fd ps []
theorem passW (tk : Takes X W) {E : XK} (hW : ∀ cls d σ H, E cls d H → W cls d σ H) : Passes (L2.CX X.prog X.w) X E := passes_call tk hW
theorem mth_ok {K : PySem.W.Frag} {F : Hp} {φ : List Addr} {G : Hp} {s : S} {σ : L2.St} {H : Hp} {i : Nat} {c mn : Str} {f : Fn} {Q : VK} {E : XK} {k0 : Addr} (hk0 : C c = some k0) (h : Rl K C F φ G s σ H) (o : OutE K C (fun cls d _ H => E cls d H) F φ G σ Q (mthV c mn i f m s)) :
    tMeth k0 mn (spE K C f) [] E (tVar i) (lifA K C (fun cls d _ H => E cls d H) m) σ H Q := by
  unfold mthV at o
  cases q : cellOf i c s with
  | none => rw [q] at o; exact o.elim
  | some nf =>
    obtain ⟨n, fs⟩ := nf
    rw [q] at o
    dsimp only at o
    obtain ⟨a, k, dx, vs, k1, k7, k2, k3, k4, k5, k6⟩ := cellOf_ok h q
    rw [hk0] at k4
    cases k4
    cases q2 : fs.lookup mn with
    | some _ => rw [q2] at o; exact o.elim
    | none =>
      rw [q2] at o
      refine ⟨.ref a, k1, a, dx, vs, rfl, k5, (FldOk.look k6).2 q2, ?_⟩
      refine lifA_bindE (f := m) (g := fun rs s => match f (.hnd n :: rs) s.mem with
        | .ok r s' => .ok r { s with mem := s'.mem }
        | .exc c fs s' => .exc c fs { s with mem := s'.mem }
        | .no => .no) h (Q := Q) o fun F' φ' H' ws rs s' l1 l2 R1 o1 q => ?_
      rw [List.append_nil]
      exact call_ok R1 (.cons (show ArgOk K F' φ' (.ref a) (.hnd n) from ⟨a, rfl, pre_get l2 k2⟩) o1) q
theorem me_mth {n i : Nat} {c mn : Str} {f : Fn} {E : XK} {pl : Sem Bool} {o : Expr} (hf : MtAt X C n c mn f) (hr : Room n X.A) (tk : Takes X (fun cls d _ H => E cls d H)) (ho : PE X o (tVar i)) (ha : PA X (e :: es) (lifA X.K C (fun cls d _ H => E cls d H) m))
    (hst : starEach (e :: es) X.env = (false, eval e X.env) :: starEach es X.env) (hpl : (backTo pos (starEach es X.env)).any (·.1) = false)
    (ht : eval (.Call (.Attribute o mn apos) (e :: es) [] pos) X.env = (do
      let ov ← eval o X.env
      standAt apos.atName
      let (f, first) ← holding [ov] (getMethod ov mn pl)
      callWith pos f first (backTo pos (starEach (e :: es) X.env)) (backToKw pos (keywordEach [] X.env)))) : PE X (.Call (.Attribute o mn apos) (e :: es) [] pos) (lif X.K C (fun cls d _ H => E cls d H) (mthV c mn i f m)) := by
  cases hk : C c with
  | none =>
    refine ⟨fun pins s σ H Q I ⟨F, φ, G, st, R, o'⟩ => ?_⟩
    unfold mthV at o'
    cases q : cellOf i c st with
    | none => rw [q] at o'; exact o'.elim
    | some nf =>
      obtain ⟨a, k, dx, vs, k1, k7, k2, k3, k4, k5, k6⟩ := cellOf_ok (n := nf.1) (fs := nf.2) R q
      rw [hk] at k4; cases k4
  | some k0 =>
    obtain ⟨g, fd, ps, c1, c2, c3, c4⟩ := hf.ex k0 hk
    exact PEwk (pe_meth ho c1 c2 c3 hr c4 .nil (passW tk fun _ _ _ _ h => h) ha hst hpl ht) fun _ _ _ ⟨_, _, _, _, h, o⟩ => mth_ok hk h o
theorem me_mth0 {n i : Nat} {c mn : Str} {f : Fn} {E : XK} {pl : Sem Bool} {o : Expr} (hf : MtAt X C n c mn f) (hr : Room n X.A) (tk : Takes X (fun cls d _ H => E cls d H)) (ho : PE X o (tVar i))
    (ht : eval (.Call (.Attribute o mn apos) [] [] pos) X.env = (do
      let ov ← eval o X.env
      standAt apos.atName
      let (f, first) ← holding [ov] (getMethod ov mn pl)
      callWith pos f first (backTo pos (starEach [] X.env)) (backToKw pos (keywordEach [] X.env)))) : PE X (.Call (.Attribute o mn apos) [] [] pos) (lif X.K C (fun cls d _ H => E cls d H) (mthV c mn i f (evalL []))) := by
  cases hk : C c with
  | none =>
    refine ⟨fun pins s σ H Q I ⟨F, φ, G, st, R, o'⟩ => ?_⟩
    unfold mthV at o'
    cases q : cellOf i c st with
    | none => rw [q] at o'; exact o'.elim
    | some nf =>
      obtain ⟨a, k, dx, vs, k1, k7, k2, k3, k4, k5, k6⟩ := cellOf_ok (n := nf.1) (fs := nf.2) R q
      rw [hk] at k4; cases k4
  | some k0 =>
    obtain ⟨g, fd, ps, c1, c2, c3, c4⟩ := hf.ex k0 hk
    refine PEwk (pe_meth0 ho c1 c2 c3 hr c4 .nil (passW tk fun _ _ _ _ h => h) ht) fun σ H Q ⟨F, φ, G, s, h, o⟩ => ?_
    have z := mth_ok (m := evalL []) hk h o
    obtain ⟨_, z1, a, dx, vs, rfl, z2, z3, z4⟩ := z
    refine ⟨_, z1, a, dx, vs, rfl, z2, z3, ?_⟩
    obtain ⟨F1, φ1, G1, s1, z5, z6⟩ := z4
    exact z6 F1 φ1 H [] (Same.refl F1) (List.prefix_refl φ1) z5 .nil
end
end Gq

namespace Gq
open PySem PySem.Spec L2

def makV (c : Str) (f : Fn) (m : Mo (List Vl)) : Mo Vl := bnd m fun rs => fun s => match f (.hnd s.mem.length :: rs) (s.mem ++ [.ins c []]) with
  | .ok (.dat .none) s' => .ok (.hnd s.mem.length) { s with mem := s'.mem }
  | .exc c fs s' => .exc c fs { s with mem := s'.mem }
  | _ => .no
structure MkAt (X : Cx) (C : Kls) (n : Nat) (x c : Str) (f : Fn) : Prop where
  ex : ∃ (k g : Addr) (fd : FuncData) (ps : List Str), C c = some k ∧ X.mg x = some (.ref k) ∧ Mk X.K k g ∧ FnOk X.prog X.w X.K X.mg X.base (L2.CX X.prog X.w) n g fd ps (spE X.K C f) ∧ Binds X.K fd ps []
section
variable {X : Cx} {C : Kls} {W : WX} {a b e : Expr} {es : List Expr} {la lb : Option Nat} {ma mb : Mo Vl} {ms : List (Mo Vl)} {m : Mo (List Vl)} {pos p apos cpos : Pos} {x c : Str}
theorem mak_ok {K : PySem.W.Frag} {F : Hp} {φ : List Addr} {G : Hp} {s : S} {σ : L2.St} {H : Hp} {f : Fn} {Q : VK} {E : XK} {k : Addr} {vs : List V} {rs : List Vl} (hk : C c = some k) (h : Rl K C F φ G s σ H) (a : ArgsOk K F φ vs rs)
    (o : OutE K C (fun cls d _ H => E cls d H) F φ G σ Q (match f (.hnd s.mem.length :: rs) (s.mem ++ [.ins c []]) with
  | .ok (.dat .none) s' => .ok (.hnd s.mem.length) { s with mem := s'.mem }
  | .exc c fs s' => .exc c fs { s with mem := s'.mem }
  | _ => .no)) : ∀ x dx, H x = none → H dx = none → dx ≠ x →
      spE K C f (.ref x :: (vs ++ [])) (upd (upd H dx (.own x)) x (.ins k dx [])) (fun v H2 => v = .non ∧ Q (.ref x) H2) E := by
  intro x dx hx hdx hne
  have le : Same H (upd (upd H dx (.own x)) x (.ins k dx [])) := (same_new hdx _).trans (same_new (by rw [upd_ne (Ne.symm hne)]; exact hx) _)
  have R1 := h.grow le
  have R2 : Rl K C F (φ ++ [x]) G { s with mem := s.mem ++ [.ins c []] } σ _ := R1.toH (p := x) (c := .ins c []) ⟨k, dx, [], hk, upd_same, trivial⟩ (h.newF hx) (h.newG hx) (h.newφ hx) (by
    intro i o
    exact h.noOwn hx i o)
  rw [List.append_nil]
  refine ⟨F, φ ++ [x], callG G s.env σ _, .hnd s.mem.length :: rs, s.mem ++ [.ins c []], R2.call, .cons (show ArgOk K F (φ ++ [x]) (.ref x) (.hnd s.mem.length) from ⟨x, rfl, by rw [← h.mlen]; simp⟩) (a.last (Same.refl F) (List.prefix_append _ _)), ?_⟩
  cases e : f (.hnd s.mem.length :: rs) (s.mem ++ [.ins c []]) with
  | ok r s' =>
    rw [e] at o
    intro F' φ' H' v l1 l2 M ov
    cases r with
    | fr _ => exact o.elim
    | hnd _ => exact o.elim
    | dat d =>
      cases d <;> first | exact o.elim | skip
      have hv := ov.non_inv
      subst hv
      refine ⟨rfl, ?_⟩
      have R3 : Rl K C F' φ' G { s with mem := s'.mem } σ H' := R2.after (s := { s with mem := s.mem ++ [.ins c []] }) l1 l2 M
      exact o F' φ' H' (.ref x) l1 ((List.prefix_append _ _).trans l2) R3 ⟨x, rfl, pre_get l2 (by rw [← h.mlen]; simp)⟩
  | exc c2 fs s' =>
    rw [e] at o
    intro F' φ' H' k2 d vs2 l1 l2 M
    exact o F' φ' H' k2 d vs2 l1 ((List.prefix_append _ _).trans l2) (R2.after (s := { s with mem := s.mem ++ [.ins c []] }) l1 l2 M)
  | no => rw [e] at o; exact o.elim
theorem me_mak0 {n : Nat} {f : Fn} {E : XK} (hf : MkAt X C n x c f) (hr : Room (n + 1) X.A) (hg : Gl X x) (tk : Takes X (fun cls d _ H => E cls d H)) (hdb : (x == ("__debug__" : Str)) = false) :
    PE X (.Call (.Name x p) [] [] pos) (lif X.K C (fun cls d _ H => E cls d H) (makV c f (evalL []))) := by
  obtain ⟨k, g, fd, ps, h1, h2, h3, h4, h5⟩ := hf.ex
  refine PEwk (pe_make0 h3 h4 hr hg h2 h5 .nil (passW tk fun _ _ _ _ h => h) hdb) fun σ H Q ⟨F, φ, G, s, R, o⟩ => ?_
  exact mak_ok h1 R .nil o

inductive Tg where
  | nm (i : Nat) | tp (ts : List Nat)
def setD (i : Nat) (d : D) (e : List Sl) : List Sl := e.set i (.dat d)
def tgSet : Tg → D → List Sl → Option (List Sl)
  | .nm i, d, e => some (setD i d e)
  | .tp ts, .tuple ds, e => if ts.length = ds.length then some ((ts.zip ds).foldl (fun e p => setD p.1 p.2 e) e) else none
  | .tp ts, .list ds, e => if ts.length = ds.length then some ((ts.zip ds).foldl (fun e p => setD p.1 p.2 e) e) else none
  | _, _, _ => none
def wipeE (e : List Sl) : List Nat → List Sl
  | [] => e
  | v :: vs => (wipeE e vs).set v .un
def noOwnAt (e : List Sl) (vs : List Nat) : Bool := vs.all fun i => match e[i]? with
  | some (.own _) => false
  | _ => true
def backE (e0 e : List Sl) (vs : List Nat) : List Sl := vs.foldr (fun i e => match e0[i]? with
  | some sl => e.set i sl
  | none => e) e
end
end Gq

namespace Gq
open PySem PySem.Spec L2

section
theorem wipe_in {σ : L2.St} {i : Nat} : ∀ {vs : List Nat}, i ∈ vs → ((wipe σ vs)[i]?).join = none
  | [], h => by cases h
  | v :: vs, h => by
    unfold wipe
    by_cases hi : v = i
    · subst hi
      by_cases hl : v < (wipe σ vs).length
      · rw [List.getElem?_set_self hl]; rfl
      · rw [List.getElem?_eq_none (by rw [List.length_set]; omega)]; rfl
    · rw [List.getElem?_set_ne hi]
      rcases List.mem_cons.mp h with h | h
      · exact absurd h.symm hi
      · exact wipe_in h
theorem wipe_wipe (σ : L2.St) (vs : List Nat) : wipe (wipe σ vs) vs = wipe σ vs := by
  apply List.ext_getElem?
  intro j
  by_cases hj : j ∈ vs
  · have h1 := wipe_in (σ := wipe σ vs) hj
    have h2 := wipe_in (σ := σ) hj
    have hl : (wipe (wipe σ vs) vs).length = (wipe σ vs).length := by rw [wipe_length]
    cases q1 : (wipe (wipe σ vs) vs)[j]? with
    | none =>
      have := List.getElem?_eq_none_iff.mp q1
      rw [hl] at this
      rw [List.getElem?_eq_none this]
    | some o =>
      rw [q1] at h1
      cases o with
      | some _ => cases h1
      | none =>
        have := (List.getElem?_eq_some_iff.mp q1).1
        rw [hl] at this
        cases q2 : (wipe σ vs)[j]? with
        | none => have z := List.getElem?_eq_none_iff.mp q2; omega
        | some o2 =>
          rw [q2] at h2
          cases o2 with
          | some _ => cases h2
          | none => rfl
  · rw [wipe_out hj]
theorem wipeE_len (e : List Sl) : ∀ vs : List Nat, (wipeE e vs).length = e.length
  | [] => rfl
  | v :: vs => by unfold wipeE; rw [List.length_set, wipeE_len e vs]
theorem wipeE_in {e : List Sl} {i : Nat} {sl : Sl} : ∀ {vs : List Nat}, i ∈ vs → (wipeE e vs)[i]? = some sl → sl = .un
  | [], h, _ => by cases h
  | v :: vs, h, q => by
    unfold wipeE at q
    by_cases hi : v = i
    · subst hi
      by_cases hl : v < (wipeE e vs).length
      · rw [List.getElem?_set_self hl] at q; cases q; rfl
      · rw [List.getElem?_eq_none (by rw [List.length_set]; omega)] at q; cases q
    · rw [List.getElem?_set_ne hi] at q
      rcases List.mem_cons.mp h with h | h
      · exact absurd h.symm hi
      · exact wipeE_in h q
theorem wipeE_out {e : List Sl} {i : Nat} : ∀ {vs : List Nat}, i ∉ vs → (wipeE e vs)[i]? = e[i]?
  | [], _ => rfl
  | v :: vs, h => by
    unfold wipeE
    rw [List.getElem?_set_ne (fun (z : v = i) => h (by rw [z]; exact List.mem_cons_self)), wipeE_out fun z => h (List.mem_cons_of_mem _ z)]
theorem backE_len {e0 : List Sl} {e : List Sl} : ∀ vs : List Nat, (backE e0 e vs).length = e.length
  | [] => rfl
  | v :: vs => by
    show (match e0[v]? with | some sl => (backE e0 e vs).set v sl | none => backE e0 e vs).length = e.length
    split
    · rw [List.length_set, backE_len vs]
    · exact backE_len vs
theorem backE_out {e0 e : List Sl} {i : Nat} : ∀ {vs : List Nat}, i ∉ vs → (backE e0 e vs)[i]? = e[i]?
  | [], _ => rfl
  | v :: vs, h => by
    show (match e0[v]? with | some sl => (backE e0 e vs).set v sl | none => backE e0 e vs)[i]? = e[i]?
    have ih := backE_out (e0 := e0) (e := e) (i := i) (vs := vs) fun z => h (List.mem_cons_of_mem _ z)
    split
    · rw [List.getElem?_set_ne (fun (z : v = i) => h (by rw [z]; exact List.mem_cons_self)), ih]
    · exact ih
theorem backE_in {e0 e : List Sl} {i : Nat} {sl : Sl} (hl : e0.length = e.length) : ∀ {vs : List Nat}, i ∈ vs → (backE e0 e vs)[i]? = some sl → e0[i]? = some sl
  | [], h, _ => by cases h
  | v :: vs, h, q => by
    have q : (match e0[v]? with | some sl => (backE e0 e vs).set v sl | none => backE e0 e vs)[i]? = some sl := q
    by_cases hi : v = i
    · subst hi
      cases w : e0[v]? with
      | none =>
        rw [w] at q
        dsimp only at q
        have h1 := (List.getElem?_eq_some_iff.mp q).1
        rw [backE_len, ← hl] at h1
        have := List.getElem?_eq_none_iff.mp w
        omega
      | some s0 =>
        rw [w] at q
        dsimp only at q
        have h1 := (List.getElem?_eq_some_iff.mp q).1
        rw [List.length_set] at h1
        rw [List.getElem?_set_self h1] at q
        exact q
    · have hm : i ∈ vs := by
        rcases List.mem_cons.mp h with h | h
        · exact absurd h.symm hi
        · exact h
      split at q
      · rw [List.getElem?_set_ne hi] at q; exact backE_in hl hm q
      · exact backE_in hl hm q
end
section
variable {K : PySem.W.Frag} {C : Kls} {W : WX} {F F' : Hp} {φ φ' : List Addr} {G G' : Hp} {s s' : S} {σ : L2.St} {H H' : Hp} {m : List Cell}
theorem wipe_out' {σ : L2.St} {i : Nat} {vs : List Nat} (h : i ∉ vs) : (wipe σ vs)[i]? = σ[i]? := wipe_out h
theorem Rl.wipe (h : Rl K C F φ G s σ H) (vs : List Nat) : Rl K C F φ G { s with env := wipeE s.env vs } (L2.wipe σ vs) H := by
  have back : ∀ {i a}, OwnAt (wipeE s.env vs) (L2.wipe σ vs) i a → OwnAt s.env σ i a := fun {i a} ⟨⟨ds, e⟩, e2⟩ => by
    by_cases hi : i ∈ vs
    · have := wipeE_in hi e; cases this
    · rw [wipeE_out hi] at e; rw [wipe_out' hi] at e2; exact ⟨⟨ds, e⟩, e2⟩
  refine ⟨h.toMl, by rw [wipe_length, wipeE_len]; exact h.len, fun i sl e => ?_, fun i j a o1 o2 => h.apart i j a (back o1) (back o2)⟩
  by_cases hi : i ∈ vs
  · have := wipeE_in hi e; subst this; trivial
  · have e : (wipeE s.env vs)[i]? = some sl := e
    rw [wipeE_out hi] at e; rw [wipe_out' hi]; exact h.slot i sl e
theorem noOwnAt_ok {e : List Sl} {vs : List Nat} (h : noOwnAt e vs = true) {i : Nat} (hi : i ∈ vs) : ∀ ds, e[i]? ≠ some (.own ds) := fun ds q => by
  have := List.all_eq_true.mp h i hi
  rw [q] at this; cases this
theorem Rl.unwipe {G0 : Hp} {vs : List Nat} (h0 : Rl K C F φ G0 s σ H) (le : Same F F') (lp : φ <+: φ') (no : noOwnAt s.env vs = true) (h : Rl K C F' φ' G s' (L2.wipe σ vs) H') : Rl K C F' φ' G { s' with env := backE s.env s'.env vs } σ H' := by
  have ll : s.env.length = s'.env.length := by rw [← h0.len, ← h.len, wipe_length]
  have back : ∀ {i a}, OwnAt (backE s.env s'.env vs) σ i a → OwnAt s'.env (L2.wipe σ vs) i a := fun {i a} ⟨⟨ds, e⟩, e2⟩ => by
    by_cases hi : i ∈ vs
    · exact absurd (backE_in ll hi e) (noOwnAt_ok no hi ds)
    · rw [backE_out hi] at e; exact ⟨⟨ds, e⟩, by rw [wipe_out' hi]; exact e2⟩
  refine ⟨h.toMl, by show σ.length = (backE _ _ _).length; rw [backE_len, ← ll]; exact h0.len, fun i sl e => ?_, fun i j a o1 o2 => h.apart i j a (back o1) (back o2)⟩
  have e : (backE s.env s'.env vs)[i]? = some sl := e
  by_cases hi : i ∈ vs
  · have q := backE_in ll hi e
    have r := h0.slot i sl q
    cases sl with
    | un => trivial
    | dat _ => obtain ⟨x, r1, r2⟩ := r; exact ⟨x, r1, r2.mono le⟩
    | own ds => exact absurd q (noOwnAt_ok no hi ds)
    | hnd _ => obtain ⟨a, r1, r2⟩ := r; exact ⟨a, r1, pre_get lp r2⟩
  · rw [backE_out hi] at e
    have r := h.slot i sl e
    rw [wipe_out' hi] at r
    exact r
theorem Rl.setV {i : Nat} {x : V} {sl : Sl} (h : Rl K C F φ G s σ H) (hs : SlOk K φ F G H (some x) sl) (no : ∀ ds, sl ≠ .own ds) : Rl K C F φ G { s with env := s.env.set i sl } (σ.set i (some x)) H := by
  have back : ∀ {j a}, OwnAt (s.env.set i sl) (σ.set i (some x)) j a → OwnAt s.env σ j a := fun {j a} ⟨⟨ds, e⟩, e2⟩ => by
    by_cases hj : i = j
    · subst hj
      by_cases hl : i < s.env.length
      · rw [List.getElem?_set_self hl] at e; cases e; exact absurd rfl (no ds)
      · rw [List.getElem?_eq_none (by rw [List.length_set]; omega)] at e; cases e
    · rw [List.getElem?_set_ne hj] at e e2; exact ⟨⟨ds, e⟩, e2⟩
  refine ⟨h.toMl, by rw [List.length_set, List.length_set]; exact h.len, fun j s2 e => ?_, fun j k a o1 o2 => h.apart j k a (back o1) (back o2)⟩
  have e : (s.env.set i sl)[j]? = some s2 := e
  by_cases hj : i = j
  · subst hj
    by_cases hl : i < s.env.length
    · rw [List.getElem?_set_self hl] at e
      cases e
      rw [List.getElem?_set_self (by rw [h.len]; exact hl)]
      exact hs
    · rw [List.getElem?_eq_none (by rw [List.length_set]; omega)] at e; cases e
  · rw [List.getElem?_set_ne hj] at e ⊢
    exact h.slot j s2 e
theorem Rl.setData {i : Nat} {x : V} {d : D} (h : Rl K C F φ G s σ H) (hs : Sh K F x d) : Rl K C F φ G { s with env := setD i d s.env } (σ.set i (some x)) H := h.setV (sl := .dat d) ⟨x, rfl, hs⟩ (fun ds z => nomatch z)

def Tg.ix : Tg → List Nat
  | .nm i => [i]
  | .tp ts => ts
def TgOk (K : PySem.W.Frag) (g : TG) (t : Tg) : Prop := ∀ (C : Kls) (F : Hp) (φ : List Addr) (G : Hp) (s : S) (σ : L2.St) (H : Hp) (x : V) (d : D) (e : List Sl) (R : L2.St → Hp → Prop), Rl K C F φ G s σ H → Sh K F x d → tgSet t d s.env = some e →
  (∀ σ', Rl K C F φ G { s with env := e } σ' H → (∀ vs : List Nat, (∀ i ∈ t.ix, i ∈ vs) → wipe σ' vs = wipe σ vs) → R σ' H) → g x σ H R
theorem wipe_set {σ : L2.St} {i : Nat} {x : Option V} : ∀ {vs : List Nat}, i ∈ vs → wipe (σ.set i x) vs = wipe σ vs := by
  intro vs hi
  apply List.ext_getElem?
  intro j
  by_cases hj : j ∈ vs
  · have h1 := wipe_in (σ := σ.set i x) hj
    have h2 := wipe_in (σ := σ) hj
    have hl : (wipe (σ.set i x) vs).length = (wipe σ vs).length := by rw [wipe_length, wipe_length, List.length_set]
    cases q1 : (wipe (σ.set i x) vs)[j]? with
    | none =>
      have := List.getElem?_eq_none_iff.mp q1
      rw [hl] at this
      rw [List.getElem?_eq_none this]
    | some o =>
      rw [q1] at h1
      cases o with
      | some _ => cases h1
      | none =>
        have := (List.getElem?_eq_some_iff.mp q1).1
        rw [hl] at this
        cases q2 : (wipe σ vs)[j]? with
        | none => have z := List.getElem?_eq_none_iff.mp q2; omega
        | some o2 =>
          rw [q2] at h2
          cases o2 with
          | some _ => cases h2
          | none => rfl
  · rw [wipe_out' hj, wipe_out' hj, List.getElem?_set_ne (fun (z : i = j) => hj (by rw [← z]; exact hi))]
theorem tg_nm (i : Nat) : TgOk K (gName i) (.nm i) := by
  intro C F φ G s σ H x d e R h hx q k
  cases q
  exact k _ (h.setData hx) fun vs hv => wipe_set (hv i (by simp [Tg.ix]))
def gNames : List Nat → TGs
  | [] => gNil
  | i :: r => gCons (gName i) (gNames r)
theorem tp_go {C : Kls} {F : Hp} {φ : List Addr} {G : Hp} {H : Hp} {R : L2.St → Hp → Prop} : ∀ (ts : List Nat) (ds : List D) (vs : List V) (s : S) (σ : L2.St), Rl K C F φ G s σ H → ShA K F vs ds → ts.length = ds.length →
    (∀ σ', Rl K C F φ G { s with env := (ts.zip ds).foldl (fun e p => setD p.1 p.2 e) s.env } σ' H → (∀ ws : List Nat, (∀ i ∈ ts, i ∈ ws) → wipe σ' ws = wipe σ ws) → R σ' H) → gNames ts vs σ H R := by
  intro ts
  induction ts with
  | nil =>
    intro ds vs s σ h ta hl k
    have : ds = [] := List.eq_nil_of_length_eq_zero hl.symm
    subst this
    have : vs = [] := List.eq_nil_of_length_eq_zero ta.len
    subst this
    exact ⟨rfl, k σ h fun _ _ => rfl⟩
  | cons i r ih =>
    intro ds vs s σ h ta hl k
    cases ds with
    | nil => cases hl
    | cons d ds =>
      obtain ⟨dp, ok⟩ := ta
      have o' : d.canLay0 = true ∧ PyData.canLayAll0 ds = true := by simpa [PyData.canLayAll0] using ok
      cases dp with
      | cons h1 h2 =>
        refine ⟨_, _, rfl, ih ds _ { s with env := setD i d s.env } _ (h.setData ⟨h1, o'.1⟩) ⟨h2, o'.2⟩ (by simpa using hl) fun σ' R1 w => ?_⟩
        refine k σ' R1 fun ws hw => ?_
        rw [w ws fun j hj => hw j (List.mem_cons_of_mem _ hj), wipe_set (hw i List.mem_cons_self)]
def gBoth (K : PySem.W.Frag) (n : Nat) (t : TGs) : TG := fun v σ H Q => L2.gTup K n t v σ H Q ∨ L2.gLst K n t v σ H Q
theorem pg_both {X : Cx} {es : List Expr} {k : Nat} {pos : Pos} {t : TGs} {n : Nat} (hc : X.calm = true) (h : PGs X es t) (hn : (assignEach es X.env).length = n) (hst : (assignEach es X.env).findIdx? (·.1) = none) : PG X (.Tuple es k pos) (gBoth X.K n t) :=
  ⟨fun pins s σ H v u Q I r w => w.elim (fun w => (pg_tup hc h hn hst).run pins s σ H v u Q I r w) fun w => (pg_lst hc h hn hst).run pins s σ H v u Q I r w⟩
theorem tg_tp (ts : List Nat) : TgOk K (gBoth K ts.length (gNames ts)) (.tp ts) := by
  intro C F φ G s σ H x d e R h hx q k
  cases d <;> first | (cases q; done) | skip
  · rename_i ds
    have q : (if ts.length = ds.length then some ((ts.zip ds).foldl (fun e p => setD p.1 p.2 e) s.env) else none) = some e := q
    split at q
    · rename_i hl
      cases q
      obtain ⟨a, vs, rfl, ha, ta⟩ := hx.lst_inv
      exact .inr ⟨a, vs, rfl, h.sub.seq ha, by rw [ta.len, hl], tp_go ts ds vs s σ h ta hl k⟩
    · cases q
  · rename_i ds
    have q : (if ts.length = ds.length then some ((ts.zip ds).foldl (fun e p => setD p.1 p.2 e) s.env) else none) = some e := q
    split at q
    · rename_i hl
      cases q
      obtain ⟨a, vs, rfl, ha, ta⟩ := hx.tup_inv
      exact .inl ⟨a, vs, rfl, Same.seqT h.sub ha, by rw [ta.len, hl], tp_go ts ds vs s σ h ta hl k⟩
    · cases q

def Srv (K : PySem.W.Frag) (J : It) (F : Hp) (ds : List D) : Prop := ∀ (i : Nat) (F' H' : Hp), Same F F' → Same F' H' →
  (i = ds.length → J.stop i H') ∧ ∀ d, ds[i]? = some d → J.go i H' ∧ ∀ x H2, J.yld i H' x H2 → (H2 = H' ∧ Sh K F' x d) ∨ ∃ p vs es, H' p = none ∧ H2 = upd H' p (.tup vs) ∧ x = .ref p ∧ d = .tuple es ∧ ShA K F' vs es
def OutI (K : PySem.W.Frag) (C : Kls) (W : WX) (F : Hp) (φ : List Addr) (G : Hp) (σ : L2.St) (R : It → Hp → Prop) : Rs (List D) → Prop
  | .ok ds s' => ∀ F' φ' H' J, Same F F' → φ <+: φ' → Rl K C F' φ' G s' σ H' → Srv K J F' ds → R J H'
  | .exc c fs s' => ∀ F' φ' H' k d vs, Same F F' → φ <+: φ' → Rl K C F' φ' G s' σ H' → C c = some k → H' d = some (.xd vs) → FldOk K F' vs fs → W (.ref k) (some d) σ H'
  | .no => False
def lifI (K : PySem.W.Frag) (C : Kls) (W : WX) (f : Mo (List D)) : TI := fun σ H R => ∃ F φ G s, Rl K C F φ G s σ H ∧ OutI K C W F φ G σ R (f s)
theorem Srv.mono {J : It} {ds : List D} (h : Srv K J F ds) (le : Same F F') : Srv K J F' ds := fun i F2 H2 l1 l2 => h i F2 H2 (le.trans l1) l2
end
theorem PIwk {X : Cx} {tg e : Expr} {t t' : TI} (h : PI X tg e t) (w : ∀ σ H R, t' σ H R → t σ H R) : PI X tg e t' := ⟨fun pins s σ H R I q => h.run pins s σ H R I (w σ H R q)⟩
section
variable {K : PySem.W.Frag} {C : Kls} {W : WX} {F F' : Hp} {φ φ' : List Addr} {G G' : Hp} {s s' : S} {σ : L2.St} {H H' : Hp} {m : List Cell}
theorem srv_lst {a : Addr} {vs : List V} {ds : List D} (ha : SqL K F a vs) (t : ShA K F vs ds) : Srv K (Itl K a) F ds := by
  intro i F' H' l1 l2
  have q : SqL K H' a vs := l2.seq (l1.seq ha)
  refine ⟨fun e => ⟨vs, q, by rw [t.len, e]; exact Nat.le_refl _⟩, fun d e => ?_⟩
  obtain ⟨v, h1, h2⟩ := t.at e
  refine ⟨⟨vs, v, q, h1⟩, fun x H2 y => ?_⟩
  obtain ⟨e2, y⟩ := y
  subst e2
  have := y vs q
  rw [h1] at this
  cases this
  exact .inl ⟨rfl, h2.mono l1⟩
theorem srv_tup {a : Addr} {vs : List V} {ds : List D} (ha : SqT K F a vs) (t : ShA K F vs ds) : Srv K (Itt K a) F ds := by
  intro i F' H' l1 l2
  have q : SqT K H' a vs := Same.seqT l2 (Same.seqT l1 ha)
  refine ⟨fun e => ⟨vs, q, by rw [t.len, e]; exact Nat.le_refl _⟩, fun d e => ?_⟩
  obtain ⟨v, h1, h2⟩ := t.at e
  refine ⟨⟨vs, v, q, h1⟩, fun x H2 y => ?_⟩
  obtain ⟨e2, y⟩ := y
  subst e2
  have := y vs q
  rw [h1] at this
  cases this
  exact .inl ⟨rfl, h2.mono l1⟩
theorem rgD_get {lo : Int} {hi : Int} {i : Nat} {d : D} (e : (rgD lo hi)[i]? = some d) : i < (hi - lo).toNat ∧ d = .int (lo + i) := by
  unfold rgD at e
  rw [List.getElem?_map, Option.map_eq_some_iff] at e
  obtain ⟨j, e1, e2⟩ := e
  have h1 := (List.getElem?_eq_some_iff.mp e1).1
  rw [List.length_range] at h1
  rw [List.getElem?_range h1] at e1
  cases e1
  exact ⟨h1, e2.symm⟩
theorem rgD_len (lo hi : Int) : (rgD lo hi).length = (hi - lo).toNat := by unfold rgD; rw [List.length_map, List.length_range]
theorem srv_rng {lo hi : Int} : Srv K (Itr lo (hi - lo).toNat) F (rgD lo hi) := by
  intro i F' H' l1 l2
  refine ⟨fun e => by rw [rgD_len] at e; rw [e]; exact Nat.le_refl _, fun d e => ?_⟩
  obtain ⟨h1, rfl⟩ := rgD_get e
  refine ⟨h1, fun x H2 y => ?_⟩
  obtain ⟨e1, e2⟩ := y
  subst e1 e2
  exact .inl ⟨rfl, Sh.int⟩
end
def itSeq (m : Mo Vl) : Mo (List D) := bnd m fun r => match frz r with
  | .dat (.list ds) => pur ds
  | .dat (.tuple ds) => pur ds
  | _ => fun _ => .no
def itRng1 (m : Mo Vl) : Mo (List D) := bnd m fun r => match r with
  | .dat (.int n) => if n < 2 ^ 62 ∧ -(2 ^ 62) ≤ n then pur (rgD 0 n) else fun _ => .no
  | _ => fun _ => .no
section
variable {X : Cx} {C : Kls} {W : WX} {a b e tg : Expr} {es : List Expr} {la lb : Option Nat} {ma mb : Mo Vl} {ms : List (Mo Vl)} {m : Mo (List Vl)} {pos p apos cpos : Pos} {x c : Str}
theorem lif_bindI {K : PySem.W.Frag} {F : Hp} {φ : List Addr} {G : Hp} {s : S} {σ : L2.St} {H : Hp} {f : Mo Vl} {g : Vl → Mo (List D)} {Q : It → Hp → Prop} (h : Rl K C F φ G s σ H) (o : OutI K C W F φ G σ Q ((f s).bind g)) {R : VK}
    (k : ∀ F' φ' H' v r s', Same F F' → φ <+: φ' → Rl K C F' φ' G s' σ H' → VlOk K F' φ' G s'.env σ H' v r → OutI K C W F' φ' G σ Q (g r s') → R v H') : lif K C W f σ H R := by
  refine ⟨F, φ, G, s, h, ?_⟩
  cases e : f s with
  | ok r s' =>
    rw [e] at o
    intro F' φ' H' v l1 l2 R1 o1
    refine k F' φ' H' v r s' l1 l2 R1 o1 ?_
    have o : OutI K C W F φ G σ Q (g r s') := o
    cases w : g r s' with
    | ok ds s2 => rw [w] at o; exact fun F2 φ2 H2 J l3 l4 R2 => o F2 φ2 H2 J (l1.trans l3) (l2.trans l4) R2
    | exc c fs s2 => rw [w] at o; exact fun F2 φ2 H2 k d vs l3 l4 R2 => o F2 φ2 H2 k d vs (l1.trans l3) (l2.trans l4) R2
    | no => rw [w] at o; exact o
  | exc c fs s' => rw [e] at o; exact o
  | no => rw [e] at o; exact o.elim
variable {t : TE}
theorem pi_both (hl : PE X a t) : PI X tg a (fun σ H R => t σ H fun x H1 => (∃ p, x = .ref p ∧ (∃ xs, SqL X.K H1 p xs) ∧ R (Itl X.K p) H1) ∨ ∃ p, x = .ref p ∧ (∃ xs, SqT X.K H1 p xs) ∧ R (Itt X.K p) H1) := by
  refine ⟨fun pins s σ H R I h => ?_⟩
  refine thn (hl.run pins s σ H _ I h) fun v s1 ⟨x, H1, I1, r1, q1⟩ => ?_
  rcases q1 with ⟨a, e, ⟨xs, hq⟩, q⟩ | ⟨a, e, ⟨xs, hq⟩, q⟩
  · subst e
    cases r1
    obtain ⟨its, rv, p, hz⟩ := I1.list hq
    refine wpAny_pyIter_list p.isList ?_
    refine ⟨s1.heap.objs.size, [s1.heap.objs.size], _, _, H1, rfl, I1.kept (t' := s1.toks) fun b o e => Heap.get?_push_of_some _ e, turn_list a _, ⟨_, Heap.get?_push_size _ rfl, rfl, rfl⟩, fun b hb => ?_, q⟩
    have e : b = s1.heap.objs.size := by simpa using hb
    subst e
    exact I1.fpOk (Nat.le_refl _) (I1.hok.fresh (Nat.le_refl _))
  · subst e
    cases r1
    obtain ⟨its, rv, p, hz⟩ := I1.tuple hq
    refine wpAny_pyIter_tuple (show s1.heap.IsTuple a its.toArray from p) ?_
    refine ⟨s1.heap.objs.size, [s1.heap.objs.size], _, _, H1, rfl, I1.kept (t' := s1.toks) fun b o e => Heap.get?_push_of_some _ e, turn_tuple a _, ⟨_, Heap.get?_push_size _ rfl, rfl, rfl⟩, fun b hb => ?_, q⟩
    have e : b = s1.heap.objs.size := by simpa using hb
    subst e
    exact I1.fpOk (Nat.le_refl _) (I1.hok.fresh (Nat.le_refl _))
theorem mi_seq (h : PE X a (lif X.K C W ma)) : PI X tg a (lifI X.K C W (itSeq ma)) := by
  refine PIwk (pi_both h) fun σ H R ⟨F, φ, G, s, R0, o⟩ => ?_
  refine lif_bindI (f := ma) R0 (Q := R) o fun F' φ' H' v r s' l1 l2 R1 o1 q => ?_
  obtain ⟨F2, l3, R2, o2⟩ := R1.frz o1
  cases e : frz r with
  | fr _ => rw [e] at q; exact q.elim
  | hnd _ => rw [e] at q; exact q.elim
  | dat d =>
    rw [e] at q o2
    cases d <;> first | exact q.elim | skip
    · obtain ⟨p, vs, rfl, hs, t⟩ := Sh.lst_inv o2
      exact .inl ⟨p, rfl, ⟨vs, R2.sub.seq hs⟩, q F2 φ' H' _ l3 (List.prefix_refl φ') R2 (srv_lst hs t)⟩
    · obtain ⟨p, vs, rfl, hs, t⟩ := Sh.tup_inv o2
      exact .inr ⟨p, rfl, ⟨vs, Same.seqT R2.sub hs⟩, q F2 φ' H' _ l3 (List.prefix_refl φ') R2 (srv_tup hs t)⟩
theorem mi_rng1 (hg : Gl X "range") (hm : X.mg "range" = none) (h : PE X a (lif X.K C W ma)) (hs : starEach [a] X.env = (false, eval a X.env) :: starEach [] X.env) : PI X tg (.Call (.Name "range" p) [a] [] pos) (lifI X.K C W (itRng1 ma)) := by
  refine PIwk (pi_range1 hg hm (pa_cons h pa_nil hs) hs) fun σ H R ⟨F, φ, G, s, R0, o⟩ => ?_
  refine lif_bindI (f := ma) R0 (Q := R) o fun F' φ' H' v r s' l1 l2 R1 o1 q => ?_
  cases r with
  | fr _ => exact q.elim
  | hnd _ => exact q.elim
  | dat d =>
    cases d <;> first | exact q.elim | skip
    rename_i n
    dsimp only at q
    split at q
    · rename_i hn
      have := o1.int_inv
      subst this
      have z := srv_rng (K := X.K) (F := F') (lo := 0) (hi := n)
      rw [Int.sub_zero] at z
      exact ⟨n, rfl, hn.2, hn.1, q F' φ' H' _ (Same.refl F') (List.prefix_refl φ') R1 z⟩
    · exact q.elim
end
end Gq

namespace Gq
open PySem PySem.Spec L2

def frzD : Vl → Option D := asD
def cLoop (tg : Tg) (t : Mo Bool) (m : Mo Vl) (vs : List Nat) : List D → List D → S → Rs (List D)
  | [], acc, s => .ok acc s
  | d :: ds, acc, s => match tgSet tg d s.env with
    | none => .no
    | some e => (t { s with env := e }).bind fun b s2 =>
      if b then (m s2).bind fun r s3 => match asD r with
        | some y => cLoop tg t m vs ds (acc ++ [y]) { s3 with env := wipeE s3.env vs }
        | none => .no
      else cLoop tg t m vs ds acc { s2 with env := wipeE s2.env vs }
def cEnd (s0 : S) (vs : List Nat) : Rs (List D) → Rs Vl
  | .ok acc s => .ok (.fr acc) { s with env := backE s0.env s.env vs }
  | _ => .no
def compV (tg : Tg) (mi : Mo (List D)) (t : Mo Bool) (m : Mo Vl) (vs : List Nat) : Mo Vl := bnd mi fun ds => fun s =>
  if ds.length ≤ lim ∧ noOwnAt s.env vs = true then cEnd s vs (cLoop tg t m vs ds [] { s with env := wipeE s.env vs }) else .no
abbrev W0 : WX := fun _ _ _ _ => False

section
variable {K : PySem.W.Frag} {C : Kls} {W : WX} {F F' : Hp} {φ φ' : List Addr} {G G' : Hp} {s s' : S} {σ : L2.St} {H H' : Hp} {m : List Cell}
theorem Rl.stepG {p : Addr} {a b : List V} (h : Rl K C F φ (upd G p (.lst a)) s σ H) : Rl K C F φ (upd G p (.lst b)) s σ (upd H p (.lst b)) := by
  have e0 : upd G p (.lst a) p = some (.lst a) := upd_same
  have hF := h.gF p _ e0
  have hφ := h.gφ p _ e0
  have old : ∀ b' u, b' ≠ p → upd G p (.lst b) b' = some u → upd G p (.lst a) b' = some u := fun b' u hb e => by rw [upd_ne hb] at e ⊢; exact e
  refine ⟨⟨fun c u w => ?_, fun c u w => ?_, fun c u w => ?_, fun c u w => ?_, h.fφ, h.nd, h.mlen, fun n c d e1 e2 => ?_, fun x P k z => ?_⟩, h.len, fun i sl e => ?_, h.apart⟩
  · rw [upd_ne (fun z => by subst z; rw [hF] at w; cases w)]; exact h.sub c u w
  · by_cases hc : c = p
    · subst hc; rw [upd_same] at w ⊢; exact w
    · rw [upd_ne hc]; exact h.gs c u (old c u hc w)
  · by_cases hc : c = p
    · subst hc; exact hF
    · exact h.gF c u (old c u hc w)
  · by_cases hc : c = p
    · subst hc; exact hφ
    · exact h.gφ c u (old c u hc w)
  · have hc : c ≠ p := fun z => hφ (z ▸ List.mem_of_getElem? e1)
    have r := h.cell n c d e1 e2
    cases d with
    | lst _ => obtain ⟨xs, r1, r2⟩ := r; exact ⟨xs, by rw [upd_ne hc]; exact r1, r2⟩
    | ins _ _ => obtain ⟨k, dx, xs, r0, r1, r2⟩ := r; exact ⟨k, dx, xs, r0, by rw [upd_ne hc]; exact r1, r2⟩
  · have t := h.tab x P k z
    have hn : P ≠ p := by
      rintro rfl
      have := t.g
      rw [e0] at this; cases this
    obtain ⟨ps, t1, t2⟩ := t.tb
    exact ⟨⟨ps, by rw [upd_ne hn]; exact t1, t2⟩, t.f, by have := t.g; rw [upd_ne hn] at this ⊢; exact this⟩
  · have r := h.slot i sl e
    cases sl with
    | un => trivial
    | dat _ => exact r
    | hnd _ => exact r
    | own _ =>
      obtain ⟨c, xs, r1, r2, r3, r4, r5, r6⟩ := r
      have hc : c ≠ p := by rintro rfl; rw [upd_same] at r5; cases r5
      exact ⟨c, xs, r1, by rw [upd_ne hc]; exact r2, r3, r4, by rw [upd_ne hc] at r5 ⊢; exact r5, r6⟩
theorem Rl.newGL {p : Addr} {a : List V} (h : Rl K C F φ G s σ H) (hp : H p = none) : Rl K C F φ (upd G p (.lst a)) s σ (upd H p (.lst a)) := by
  obtain ⟨h1, h2⟩ := (h.newL hp (.nil : ShA K F [] []))
  obtain ⟨_, h3⟩ := h1.protect h2 upd_same
  have := Rl.stepG (b := a) h3
  rw [upd_upd] at this
  exact this
theorem Rl.takeG {p : Addr} {vs : List V} {ds : List D} (h : Rl K C F φ (upd G p (.lst vs)) s σ H) (hG : G p = none) (t : ShA K F vs ds) : Rl K C F φ G s σ H ∧ VlOk K F φ G s.env σ H (.ref p) (.fr ds) := by
  have e0 : upd G p (.lst vs) p = some (.lst vs) := upd_same
  refine ⟨h.weak (same_new hG _), p, vs, rfl, h.gs p _ e0, t, h.gF p _ e0, hG, h.gφ p _ e0, fun i o => ?_⟩
  obtain ⟨_, _, _, _, _, _, z, _⟩ := OwnAt.slot h o
  rw [e0] at z; cases z
theorem Srv.item {J : It} {ds : List D} {i : Nat} {d : D} {x : V} {H2 : Hp} (hJ : Srv K J F ds) (h : Rl K C F φ G s σ H) (e : ds[i]? = some d) (y : J.yld i H x H2) : ∃ F2, Same F F2 ∧ Rl K C F2 φ G s σ H2 ∧ Sh K F2 x d := by
  rcases ((hJ i F H (Same.refl F) h.sub).2 d e).2 x H2 y with ⟨e1, e2⟩ | ⟨p, vs, es, hp, e1, e2, e3, t⟩
  · subst e1; exact ⟨F, Same.refl F, h, e2⟩
  · subst e1 e2 e3
    obtain ⟨h0, h1, h2⟩ := h.newT hp t
    exact ⟨_, h0, h1, h2⟩
theorem OutE.eqR {r r' : Rs Vl} {Q : VK} (h : OutE K C W F φ G σ Q r) (e : r = r') : OutE K C W F φ G σ Q r' := e ▸ h
theorem comp_ok {g : TG} {tg : Tg} {mt : Mo Bool} {me : Mo Vl} {vs : List Nat} {J : It} {ds : List D} {Q : VK} (hg : TgOk K g tg) (hix : ∀ i ∈ tg.ix, i ∈ vs) (h : Rl K C F φ G s σ H) (hJ : Srv K J F ds)
    (hl : ds.length ≤ lim) (no : noOwnAt s.env vs = true) (o : OutE K C W F φ G σ Q (cEnd s vs (cLoop tg mt me vs ds [] { s with env := wipeE s.env vs }))) :
    ∀ p, H p = none → ∃ Wi : Nat → Nat → Hp → Prop, (∃ m, Wi 0 m (upd H p (.lst []))) ∧ ∀ i m H, Wi i m H →
      (J.stop i H ∧ Q (.ref p) H) ∨ (J.go i H ∧ ∃ Nx : Hp → Prop, (∀ H', Nx H' → ∃ m', m' < m ∧ Wi (i + 1) m' H') ∧ ∀ x H', J.yld i H x H' → g x (wipe σ vs) H' fun σ2 H2 => wipe σ2 vs = wipe σ vs ∧ (lifT K C W0 mt) σ2 H2 fun b H3 =>
        if b = true then (lif K C W0 me) σ2 H3 fun y H4 => ∃ acc, H4 p = some (.lst acc) ∧ acc.length < sizeLine ∧ Nx (upd H4 p (.lst (acc ++ [y]))) else Nx H3) := by
  intro p hp
  have hGp : G p = none := Ml.newG h.toMl hp
  refine ⟨fun i m Hi => m = ds.length - i ∧ i ≤ ds.length ∧ ∃ F1 φ1 s1 va acc, Same F F1 ∧ φ <+: φ1 ∧ Rl K C F1 φ1 (upd G p (.lst va)) s1 (wipe σ vs) Hi ∧ ShA K F1 va acc ∧ va.length ≤ i ∧
    OutE K C W F1 φ1 G σ Q (cEnd s vs (cLoop tg mt me vs (ds.drop i) acc s1)), ⟨ds.length, rfl, Nat.zero_le _, F, φ, { s with env := wipeE s.env vs }, [], [], Same.refl F, List.prefix_refl φ, (h.newGL hp).wipe vs, .nil, Nat.le_refl _, o⟩, ?_⟩
  rintro i m Hi ⟨rfl, hi, F1, φ1, s1, va, acc, l1, l2, R1, ta, hva, o1⟩
  by_cases hlt : i < ds.length
  · have hd : ds[i]? = some ds[i] := List.getElem?_eq_getElem hlt
    have dr : ds.drop i = ds[i] :: ds.drop (i + 1) := List.drop_eq_getElem_cons hlt
    rw [dr] at o1
    refine .inr ⟨((hJ.mono l1 i F1 Hi (Same.refl F1) R1.sub).2 _ hd).1, fun Hn => ds.length - (i + 1) < ds.length - i ∧ ∃ F2 φ2 s2 va2 acc2, Same F F2 ∧ φ <+: φ2 ∧ Rl K C F2 φ2 (upd G p (.lst va2)) s2 (wipe σ vs) Hn ∧ ShA K F2 va2 acc2 ∧ va2.length ≤ i + 1 ∧
      OutE K C W F2 φ2 G σ Q (cEnd s vs (cLoop tg mt me vs (ds.drop (i + 1)) acc2 s2)), fun H' ⟨w0, w⟩ => ⟨_, w0, rfl, hlt, w⟩, fun x H2 y => ?_⟩
    obtain ⟨F2, l3, R2, hx⟩ := (hJ.mono l1).item R1 hd y
    have o2 := OutE.later o1 l3 (List.prefix_refl φ1)
    unfold cLoop at o2
    cases et : tgSet tg ds[i] s1.env with
    | none => rw [et] at o2; exact o2.elim
    | some e =>
      rw [et] at o2
      dsimp only at o2
      refine hg C F2 φ1 (upd G p (.lst va)) s1 (wipe σ vs) H2 x ds[i] e _ R2 hx et fun σ3 R3 ws => ?_
      have ew : wipe σ3 vs = wipe (wipe σ vs) vs := ws vs hix
      have eww : wipe (wipe σ vs) vs = wipe σ vs := wipe_wipe σ vs
      refine ⟨ew.trans eww, F2, φ1, upd G p (.lst va), { s1 with env := e }, R3, ?_⟩
      cases e1 : mt { s1 with env := e } with
      | no => rw [e1] at o2; exact o2.elim
      | exc c fs s2 => rw [e1] at o2; exact o2.elim
      | ok b s2 =>
        rw [e1] at o2
        intro F4 φ4 H4 l4 l5 R4
        have o3 := OutE.later o2 l4 l5
        cases b with
        | false =>
          rw [if_neg Bool.false_ne_true]
          have R5 := R4.wipe vs
          rw [ew.trans eww] at R5
          exact ⟨by omega, F4, φ4, _, va, acc, (l1.trans l3).trans l4, l2.trans l5, R5, ta.mono (l3.trans l4), by omega, o3⟩
        | true =>
          rw [if_pos rfl]
          have o4 : OutE K C W F4 φ4 G σ Q (cEnd s vs ((me s2).bind fun r s3 => match asD r with
            | some y => cLoop tg mt me vs (ds.drop (i + 1)) (acc ++ [y]) { s3 with env := wipeE s3.env vs }
            | none => .no)) := o3
          refine ⟨F4, φ4, upd G p (.lst va), s2, R4, ?_⟩
          cases e2 : me s2 with
          | no => rw [e2] at o4; exact o4.elim
          | exc c fs s3 => rw [e2] at o4; exact o4.elim
          | ok r s3 =>
            rw [e2] at o4
            intro F5 φ5 H5 v l6 l7 R6 ov
            obtain ⟨F6, l8, R7, ov2⟩ := R6.frz ov
            have o5 := OutE.later (OutE.later o4 l6 l7) l8 (List.prefix_refl φ5)
            have e0 : upd G p (.lst va) p = some (.lst va) := upd_same
            have key : ∀ y, asD r = some y → Sh K F6 v y := fun y hy => by
              cases r with
              | dat d => cases hy; exact ov2
              | fr ds => cases hy; exact ov2
              | hnd n => cases hy
            cases e3 : asD r with
            | none =>
              have o6 : OutE K C W F6 φ5 G σ Q (cEnd s vs (match asD r with
                | some y => cLoop tg mt me vs (ds.drop (i + 1)) (acc ++ [y]) { s3 with env := wipeE s3.env vs }
                | none => .no)) := o5
              rw [e3] at o6; exact o6.elim
            | some y =>
              have o6 : OutE K C W F6 φ5 G σ Q (cEnd s vs (match asD r with
                | some y => cLoop tg mt me vs (ds.drop (i + 1)) (acc ++ [y]) { s3 with env := wipeE s3.env vs }
                | none => .no)) := o5
              rw [e3] at o6
              refine ⟨va, R7.gs p _ e0, ?_, ?_⟩
              · have h1 : (sizeLine : Nat) = 16777216 := sizeLine_eq
                have h2 : ds.length ≤ 1000000 := hl
                omega
              · have R8 := (Rl.stepG (b := va ++ [v]) R7).wipe vs
                rw [ew.trans eww] at R8
                exact ⟨by omega, F6, φ5, _, va ++ [v], acc ++ [y], (((l1.trans l3).trans l4).trans l6).trans l8, (l2.trans l5).trans l7, R8, (ta.mono (((l3.trans l4).trans l6).trans l8)).app (.one (key y e3)), by rw [List.length_append]; simp; omega, o6⟩
  · have e : i = ds.length := by omega
    subst e
    refine .inl ⟨(hJ.mono l1 _ F1 Hi (Same.refl F1) R1.sub).1 rfl, ?_⟩
    rw [List.drop_eq_nil_of_le (Nat.le_refl _)] at o1
    have R2 : Rl K C F1 φ1 (upd G p (.lst va)) { s1 with env := backE s.env s1.env vs } σ Hi := Rl.unwipe h l1 l2 no R1
    obtain ⟨R3, ov⟩ := R2.takeG hGp ta
    exact o1 F1 φ1 Hi (.ref p) (Same.refl F1) (List.prefix_refl φ1) R3 ov
end
section
variable {X : Cx} {C : Kls} {W : WX} {a b e tgx elt iter : Expr} {ifs : List Expr} {es : List Expr} {ma mb me : Mo Vl} {mi : Mo (List D)} {mt : Mo Bool} {pos p : Pos} {tg : Tg} {g : TG} {scope : Scope} {own : List (Str × Nat)}
theorem lifI_bindE {K : PySem.W.Frag} {F : Hp} {φ : List Addr} {G : Hp} {s : S} {σ : L2.St} {H : Hp} {f : Mo (List D)} {g : List D → Mo Vl} {Q : VK} (h : Rl K C F φ G s σ H) (o : OutE K C W F φ G σ Q ((f s).bind g)) {R : It → Hp → Prop}
    (k : ∀ F' φ' H' J ds s', Same F F' → φ <+: φ' → Rl K C F' φ' G s' σ H' → Srv K J F' ds → OutE K C W F' φ' G σ Q (g ds s') → R J H') : lifI K C W f σ H R := by
  refine ⟨F, φ, G, s, h, ?_⟩
  cases e : f s with
  | ok ds s' =>
    rw [e] at o
    exact fun F' φ' H' J l1 l2 R1 o1 => k F' φ' H' J ds s' l1 l2 R1 o1 (OutE.later (r := g ds s') o l1 l2)
  | exc c fs s' => rw [e] at o; exact o
  | no => rw [e] at o; exact o.elim
theorem compV_ok {K : PySem.W.Frag} {F : Hp} {φ : List Addr} {G : Hp} {s : S} {σ : L2.St} {H : Hp} {Q : VK} {vs : List Nat} (hg : TgOk K g tg) (hix : ∀ i ∈ tg.ix, i ∈ vs) (h : Rl K C F φ G s σ H) (o : OutE K C W F φ G σ Q (compV tg mi mt me vs s)) :
    tLc (lifI K C W mi) g (lifT K C W0 mt) (lif K C W0 me) vs σ H Q := by
  refine lifI_bindE (f := mi) (g := fun ds => fun s => if ds.length ≤ lim ∧ noOwnAt s.env vs = true then cEnd s vs (cLoop tg mt me vs ds [] { s with env := wipeE s.env vs }) else .no) h (Q := Q) o fun F' φ' H' J ds s' l1 l2 R1 hJ q => ?_
  split at q
  · rename_i hc
    exact comp_ok hg hix R1 hJ hc.1 hc.2 q
  · exact q.elim
theorem me_comp (hc : X.calm = true) (hN : X.N.Nodup) (hi : PI X tgx iter (lifI X.K C W mi)) (ok : BlkOk X.N X.env.scope scope own) (hgt : TgOk X.K g tg) (hix : ∀ i ∈ tg.ix, i ∈ own.map (·.2))
    (hg : ∀ (s : Shared) (H : Hp) (Ca : Addr) (cl : List (Str × Addr)) (fp : List Addr), PG (X.blk s H scope (compEnvC scope cl Ca X.env) fp) tgx g) (ht : ∀ (s : Shared) (H : Hp) (Ca : Addr) (cl : List (Str × Addr)) (fp : List Addr), PTs (X.blk s H scope (compEnvC scope cl Ca X.env) fp) ifs (lifT X.K C W0 mt))
    (he : ∀ (s : Shared) (H : Hp) (Ca : Addr) (cl : List (Str × Addr)) (fp : List Addr), PE (X.blk s H scope (compEnvC scope cl Ca X.env) fp) elt (lif X.K C W0 me)) (hs : ∀ x, foldedSetIterable iter X.env x = pure x) :
    PE X (.ListComp elt [⟨tgx, iter, ifs, 0⟩] scope pos) (lif X.K C W (compV tg mi mt me (own.map (·.2)))) :=
  PEwk (pe_lc hc hN hi ok hg ht he hs) fun _ _ _ ⟨_, _, _, _, h, o⟩ => compV_ok hgt hix h o
end
end Gq

namespace Gq
open PySem PySem.Spec L2

inductive Fl where
  | nx | ret (r : Vl) | brk | ct
def OutS (K : PySem.W.Frag) (C : Kls) (W : WX) (F : Hp) (φ : List Addr) (G : Hp) (E : Ends) : Rs Fl → Prop
  | .ok .nx s' => ∀ F' φ' H' σ', Same F F' → φ <+: φ' → Rl K C F' φ' G s' σ' H' → E.nx σ' H'
  | .ok .brk s' => ∀ F' φ' H' σ', Same F F' → φ <+: φ' → Rl K C F' φ' G s' σ' H' → E.bk σ' H'
  | .ok .ct s' => ∀ F' φ' H' σ', Same F F' → φ <+: φ' → Rl K C F' φ' G s' σ' H' → E.ct σ' H'
  | .ok (.ret r) s' => ∀ F' φ' H' v, Same F F' → φ <+: φ' → Ml K C F' φ' G s'.mem H' → VlOk K F' φ' G [] [] H' v r → E.rt v H'
  | .exc c fs s' => ∀ F' φ' H' σ' k d vs, Same F F' → φ <+: φ' → Rl K C F' φ' G s' σ' H' → C c = some k → H' d = some (.xd vs) → FldOk K F' vs fs → W (.ref k) (some d) σ' H'
  | .no => False
def lifS (K : PySem.W.Frag) (C : Kls) (W : WX) (f : Mo Fl) : TS := fun E σ H => ∃ F φ G s, Rl K C F φ G s σ H ∧ OutS K C W F φ G E (f s)
section
variable {K : PySem.W.Frag} {C : Kls} {W : WX} {F F' : Hp} {φ φ' : List Addr} {G G' : Hp} {s s' : S} {σ : L2.St} {H H' : Hp} {m : List Cell} {E E' : Ends}
theorem OutS.later {r : Rs Fl} (h : OutS K C W F φ G E r) (le : Same F F') (lp : φ <+: φ') : OutS K C W F' φ' G E r := by
  cases r with
  | ok f s' =>
    cases f with
    | nx => exact fun F2 φ2 H2 σ2 l1 l2 R => h F2 φ2 H2 σ2 (le.trans l1) (lp.trans l2) R
    | brk => exact fun F2 φ2 H2 σ2 l1 l2 R => h F2 φ2 H2 σ2 (le.trans l1) (lp.trans l2) R
    | ct => exact fun F2 φ2 H2 σ2 l1 l2 R => h F2 φ2 H2 σ2 (le.trans l1) (lp.trans l2) R
    | ret r => exact fun F2 φ2 H2 v l1 l2 R => h F2 φ2 H2 v (le.trans l1) (lp.trans l2) R
  | exc c fs s' => exact fun F2 φ2 H2 σ2 k d vs l1 l2 R => h F2 φ2 H2 σ2 k d vs (le.trans l1) (lp.trans l2) R
  | no => exact h
def seqS (f g : Mo Fl) : Mo Fl := bnd f fun r => match r with
  | .nx => g
  | r => pur r
theorem lif_bindS {f : Mo Vl} {g : Vl → Mo Fl} (h : Rl K C F φ G s σ H) (o : OutS K C (fun c d σ' H' => W c d σ' H') F φ G E ((f s).bind g)) {R : VK}
    (k : ∀ F' φ' H' v r s', Same F F' → φ <+: φ' → Rl K C F' φ' G s' σ H' → VlOk K F' φ' G s'.env σ H' v r → OutS K C W F' φ' G E (g r s') → R v H') : lif K C W f σ H R := by
  refine ⟨F, φ, G, s, h, ?_⟩
  cases e : f s with
  | ok r s' =>
    rw [e] at o
    exact fun F' φ' H' v l1 l2 R1 o1 => k F' φ' H' v r s' l1 l2 R1 o1 (OutS.later (r := g r s') o l1 l2)
  | exc c fs s' => rw [e] at o; exact fun F' φ' H' k d vs l1 l2 R1 => o F' φ' H' σ k d vs l1 l2 R1
  | no => rw [e] at o; exact o.elim
theorem lifT_bindS {f : Mo Bool} {g : Bool → Mo Fl} (h : Rl K C F φ G s σ H) (o : OutS K C W F φ G E ((f s).bind g)) {R : Bool → Hp → Prop}
    (k : ∀ F' φ' H' r s', Same F F' → φ <+: φ' → Rl K C F' φ' G s' σ H' → OutS K C W F' φ' G E (g r s') → R r H') : lifT K C W f σ H R := by
  refine ⟨F, φ, G, s, h, ?_⟩
  cases e : f s with
  | ok r s' =>
    rw [e] at o
    exact fun F' φ' H' l1 l2 R1 => k F' φ' H' r s' l1 l2 R1 (OutS.later (r := g r s') o l1 l2)
  | exc c fs s' => rw [e] at o; exact fun F' φ' H' k d vs l1 l2 R1 => o F' φ' H' σ k d vs l1 l2 R1
  | no => rw [e] at o; exact o.elim
theorem lifI_bindS {f : Mo (List D)} {g : List D → Mo Fl} (h : Rl K C F φ G s σ H) (o : OutS K C W F φ G E ((f s).bind g)) {R : It → Hp → Prop}
    (k : ∀ F' φ' H' J ds s', Same F F' → φ <+: φ' → Rl K C F' φ' G s' σ H' → Srv K J F' ds → OutS K C W F' φ' G E (g ds s') → R J H') : lifI K C W f σ H R := by
  refine ⟨F, φ, G, s, h, ?_⟩
  cases e : f s with
  | ok ds s' =>
    rw [e] at o
    exact fun F' φ' H' J l1 l2 R1 o1 => k F' φ' H' J ds s' l1 l2 R1 o1 (OutS.later (r := g ds s') o l1 l2)
  | exc c fs s' => rw [e] at o; exact fun F' φ' H' k d vs l1 l2 R1 => o F' φ' H' σ k d vs l1 l2 R1
  | no => rw [e] at o; exact o.elim
def slOf : Vl → Sl
  | .dat d => .dat d
  | .fr ds => .own ds
  | .hnd n => .hnd n
theorem Rl.setR {i : Nat} {v : V} {r : Vl} (h : Rl K C F φ G s σ H) (o : VlOk K F φ G s.env σ H v r) : Rl K C F φ G { s with env := s.env.set i (slOf r) } (σ.set i (some v)) H := by
  cases r with
  | dat d => exact h.setV (sl := .dat d) ⟨v, rfl, o⟩ fun ds z => nomatch z
  | hnd n => obtain ⟨a, rfl, e⟩ := o; exact h.setV (sl := .hnd n) ⟨a, rfl, e⟩ fun ds z => nomatch z
  | fr ds =>
    obtain ⟨p, vs, rfl, e2, e3, e4, e5, e6, e7⟩ := o
    have at_ : ∀ {j a}, OwnAt (s.env.set i (.own ds)) (σ.set i (some (.ref p))) j a → (j = i ∧ a = p) ∨ (j ≠ i ∧ OwnAt s.env σ j a) := fun {j a} ⟨⟨es, q⟩, q2⟩ => by
      by_cases hj : i = j
      · subst hj
        have hl := (List.getElem?_eq_some_iff.mp q2).1
        rw [List.length_set] at hl
        rw [List.getElem?_set_self hl] at q2
        cases q2
        exact .inl ⟨rfl, rfl⟩
      · rw [List.getElem?_set_ne hj] at q q2
        exact .inr ⟨fun z => hj z.symm, ⟨es, q⟩, q2⟩
    refine ⟨h.toMl, by show (σ.set i _).length = (s.env.set i _).length; rw [List.length_set, List.length_set]; exact h.len, fun j s2 e => ?_, fun j k a o1 o2 => ?_⟩
    · have e : (s.env.set i (.own ds))[j]? = some s2 := e
      by_cases hj : i = j
      · subst hj
        have hl := (List.getElem?_eq_some_iff.mp e).1
        rw [List.length_set] at hl
        rw [List.getElem?_set_self hl] at e
        cases e
        rw [List.getElem?_set_self (by rw [h.len]; exact hl)]
        exact ⟨p, vs, rfl, e2, e3, e4, e5, e6⟩
      · rw [List.getElem?_set_ne hj] at e ⊢
        exact h.slot j s2 e
    · rcases at_ o1 with ⟨rfl, rfl⟩ | ⟨n1, o1'⟩
      · rcases at_ o2 with ⟨rfl, _⟩ | ⟨n2, o2'⟩
        · rfl
        · exact absurd o2' (e7 k)
      · rcases at_ o2 with ⟨rfl, rfl⟩ | ⟨n2, o2'⟩
        · exact absurd o1' (e7 j)
        · exact h.apart j k a o1' o2'
def asgS (i : Nat) (m : Mo Vl) : Mo Fl := bnd m fun r => fun s => .ok .nx { s with env := s.env.set i (slOf r) }
def unpS (ts : List Nat) (m : Mo Vl) : Mo Fl := bnd m fun r => match r with
  | .dat d => fun s => match tgSet (.tp ts) d s.env with
    | some e => .ok .nx { s with env := e }
    | none => .no
  | _ => fun _ => .no
def exprS (m : Mo Vl) : Mo Fl := bnd m fun _ => pur .nx
def retS (m : Mo Vl) : Mo Fl := bnd m fun r => pur (.ret r)
def ifS (t : Mo Bool) (f g : Mo Fl) : Mo Fl := bnd t fun b => if b then f else g
def eMove (i : Nat) : Mo Vl := fun s => match s.env[i]? with
  | some (.dat d) => .ok (.dat d) s
  | some (.own ds) => .ok (.fr ds) { s with env := s.env.set i .un }
  | some (.hnd n) => .ok (.hnd n) s
  | _ => .no
theorem eMove_ok {i : Nat} {r : Vl} (h : Rl K C F φ G s σ H) (e : eMove i s = .ok r s') : ∃ v, σ[i]? = some (some v) ∧ Rl K C F φ G s' σ H ∧ VlOk K F φ G s'.env σ H v r := by
  unfold eMove at e
  cases q : s.env[i]? with
  | none => rw [q] at e; cases e
  | some sl =>
    rw [q] at e
    have z := h.slot i sl q
    cases sl with
    | un => cases e
    | dat d =>
      cases e
      obtain ⟨x, e1, e2⟩ := z
      exact ⟨x, join_some e1, h, e2⟩
    | hnd n =>
      cases e
      obtain ⟨a, e1, e2⟩ := z
      exact ⟨_, join_some e1, h, a, rfl, e2⟩
    | own ds =>
      cases e
      obtain ⟨a, vs, e1, e2, e3, e4, e5, e6⟩ := z
      have eσ := join_some e1
      have h0 : Rl K C F φ G { s with env := s.env.set i .un } σ H := h.setSl (by trivial) (fun ds z => nomatch z)
      refine ⟨.ref a, eσ, h0, a, vs, rfl, e2, e3, e4, e5, e6, fun j o => ?_⟩
      obtain ⟨⟨es, q2⟩, q3⟩ := o
      have q2 : (s.env.set i .un)[j]? = some (.own es) := q2
      by_cases hj : i = j
      · subst hj
        rw [List.getElem?_set_self (List.getElem?_eq_some_iff.mp q).1] at q2
        cases q2
      · rw [List.getElem?_set_ne hj] at q2
        exact hj (h.apart i j a ⟨⟨ds, q⟩, eσ⟩ ⟨⟨es, q2⟩, q3⟩)
def fLoop (tg : Tg) (body : Mo Fl) : List D → S → Rs Fl
  | [], s => .ok .nx s
  | d :: ds, s => match tgSet tg d s.env with
    | none => .no
    | some e => (body { s with env := e }).bind fun f s2 => match f with
      | .nx => fLoop tg body ds s2
      | .ct => fLoop tg body ds s2
      | .brk => .ok .nx s2
      | .ret r => .ok (.ret r) s2
def forS (tg : Tg) (mi : Mo (List D)) (body : Mo Fl) : Mo Fl := bnd mi fun ds => fLoop tg body ds
def wLoop (t : Mo Bool) (body : Mo Fl) : Nat → S → Rs Fl
  | 0, _ => .no
  | n + 1, s => (t s).bind fun b s1 => if b then (body s1).bind fun f s2 => match f with
      | .nx => wLoop t body n s2
      | .ct => wLoop t body n s2
      | .brk => .ok .nx s2
      | .ret r => .ok (.ret r) s2
    else .ok .nx s1
def whlS (n : Nat) (t : Mo Bool) (body : Mo Fl) : Mo Fl := fun s => wLoop t body n s
theorem VlOk.out {e : List Sl} {v : V} {r : Vl} (h : VlOk K F φ G e σ H v r) : VlOk K F φ G [] [] H v r := by
  cases r with
  | dat d => exact h
  | fr ds => obtain ⟨p, vs, e1, e2, e3, e4, e5, e6, e7⟩ := h; exact ⟨p, vs, e1, e2, e3, e4, e5, e6, fun i o => by obtain ⟨_, z⟩ := o; simp at z⟩
  | hnd n => exact h
theorem OutS.ends {r : Rs Fl} (h : OutS K C W F φ G E r) (h1 : ∀ σ H, E.nx σ H → E'.nx σ H) (h2 : ∀ v H, E.rt v H → E'.rt v H) (h3 : ∀ σ H, E.bk σ H → E'.bk σ H) (h4 : ∀ σ H, E.ct σ H → E'.ct σ H) : OutS K C W F φ G E' r := by
  cases r with
  | ok f s' =>
    cases f with
    | nx => exact fun F2 φ2 H2 σ2 l1 l2 R => h1 _ _ (h F2 φ2 H2 σ2 l1 l2 R)
    | brk => exact fun F2 φ2 H2 σ2 l1 l2 R => h3 _ _ (h F2 φ2 H2 σ2 l1 l2 R)
    | ct => exact fun F2 φ2 H2 σ2 l1 l2 R => h4 _ _ (h F2 φ2 H2 σ2 l1 l2 R)
    | ret r => exact fun F2 φ2 H2 v l1 l2 R o => h2 _ _ (h F2 φ2 H2 v l1 l2 R o)
  | exc c fs s' => exact h
  | no => exact h
theorem for_ok {g : TG} {tg : Tg} {body : Mo Fl} {J : It} {ds : List D} (hg : TgOk K g tg) (h : Rl K C F φ G s σ H) (hJ : Srv K J F ds) (o : OutS K C W F φ G E (fLoop tg body ds s)) :
    ∃ Wi : Nat → Nat → L2.St → Hp → Prop, (∃ m, Wi 0 m σ H) ∧ ∀ i m σ H, Wi i m σ H →
      (J.stop i H ∧ E.nx σ H) ∨ (J.go i H ∧ ∃ N : L2.St → Hp → Prop, (∀ σ' H', N σ' H' → ∃ m', m' < m ∧ Wi (i + 1) m' σ' H') ∧ ∀ x H', J.yld i H x H' → g x σ H' fun σ2 H2 => (lifS K C W body) { E with nx := N, ct := N, bk := E.nx } σ2 H2) := by
  refine ⟨fun i m σi Hi => m = ds.length - i ∧ i ≤ ds.length ∧ ∃ F1 φ1 s1, Same F F1 ∧ φ <+: φ1 ∧ Rl K C F1 φ1 G s1 σi Hi ∧ OutS K C W F1 φ1 G E (fLoop tg body (ds.drop i) s1), ⟨ds.length, rfl, Nat.zero_le _, F, φ, s, Same.refl F, List.prefix_refl φ, h, o⟩, ?_⟩
  rintro i m σi Hi ⟨rfl, hi, F1, φ1, s1, l1, l2, R1, o1⟩
  by_cases hlt : i < ds.length
  · have hd : ds[i]? = some ds[i] := List.getElem?_eq_getElem hlt
    have dr : ds.drop i = ds[i] :: ds.drop (i + 1) := List.drop_eq_getElem_cons hlt
    rw [dr] at o1
    refine .inr ⟨((hJ.mono l1 i F1 Hi (Same.refl F1) R1.sub).2 _ hd).1, fun σn Hn => ds.length - (i + 1) < ds.length - i ∧ ∃ F2 φ2 s2, Same F F2 ∧ φ <+: φ2 ∧ Rl K C F2 φ2 G s2 σn Hn ∧ OutS K C W F2 φ2 G E (fLoop tg body (ds.drop (i + 1)) s2),
      fun σ' H' ⟨w0, w⟩ => ⟨_, w0, rfl, hlt, w⟩, fun x H2 y => ?_⟩
    obtain ⟨F2, l3, R2, hx⟩ := (hJ.mono l1).item R1 hd y
    have o2 := OutS.later o1 l3 (List.prefix_refl φ1)
    unfold fLoop at o2
    cases et : tgSet tg ds[i] s1.env with
    | none => rw [et] at o2; exact o2.elim
    | some e =>
      rw [et] at o2
      dsimp only at o2
      refine hg C F2 φ1 G s1 σi H2 x ds[i] e _ R2 hx et fun σ3 R3 ws => ?_
      refine ⟨F2, φ1, G, { s1 with env := e }, R3, ?_⟩
      cases e1 : body { s1 with env := e } with
      | no => rw [e1] at o2; exact o2.elim
      | exc c fs s2 => rw [e1] at o2; exact o2
      | ok f s2 =>
        rw [e1] at o2
        cases f with
        | nx => exact fun F4 φ4 H4 σ4 l4 l5 R4 => ⟨by omega, F4, φ4, s2, (l1.trans l3).trans l4, l2.trans l5, R4, OutS.later (r := fLoop tg body (ds.drop (i + 1)) s2) o2 l4 l5⟩
        | ct => exact fun F4 φ4 H4 σ4 l4 l5 R4 => ⟨by omega, F4, φ4, s2, (l1.trans l3).trans l4, l2.trans l5, R4, OutS.later (r := fLoop tg body (ds.drop (i + 1)) s2) o2 l4 l5⟩
        | brk => exact o2
        | ret r => exact o2
  · have e : i = ds.length := by omega
    subst e
    rw [List.drop_eq_nil_of_le (Nat.le_refl _)] at o1
    exact .inl ⟨(hJ.mono l1 _ F1 Hi (Same.refl F1) R1.sub).1 rfl, o1 F1 φ1 Hi σi (Same.refl F1) (List.prefix_refl φ1) R1⟩
theorem whl_ok {t : Mo Bool} {body : Mo Fl} {n : Nat} (h : Rl K C F φ G s σ H) (o : OutS K C W F φ G E (wLoop t body n s)) : tWhile (lifT K C W t) (lifS K C W body) E σ H := by
  refine ⟨fun m σi Hi => ∃ F1 φ1 s1, Rl K C F1 φ1 G s1 σi Hi ∧ OutS K C W F1 φ1 G E (wLoop t body m s1), ⟨n, F, φ, s, h, o⟩, ?_⟩
  rintro m σi Hi ⟨F1, φ1, s1, R1, o1⟩
  cases m with
  | zero => exact o1.elim
  | succ m =>
    have o1 : OutS K C W F1 φ1 G E ((t s1).bind fun b s1 => if b then (body s1).bind fun f s2 => match f with
      | .nx => wLoop t body m s2
      | .ct => wLoop t body m s2
      | .brk => .ok .nx s2
      | .ret r => .ok (.ret r) s2
    else .ok .nx s1) := o1
    refine lifT_bindS (f := t) (g := fun b s1 => if b then (body s1).bind fun f s2 => match f with
      | .nx => wLoop t body m s2
      | .ct => wLoop t body m s2
      | .brk => .ok .nx s2
      | .ret r => .ok (.ret r) s2
    else .ok .nx s1) R1 o1 fun F2 φ2 H2 b s2 l1 l2 R2 q => ?_
    cases b with
    | false =>
      rw [if_neg Bool.false_ne_true] at q ⊢
      exact q F2 φ2 H2 σi (Same.refl F2) (List.prefix_refl φ2) R2
    | true =>
      rw [if_pos rfl] at q ⊢
      refine ⟨fun σn Hn => ∃ F3 φ3 s3, Rl K C F3 φ3 G s3 σn Hn ∧ OutS K C W F3 φ3 G E (wLoop t body m s3), fun σ' H' w => ⟨m, Nat.lt_succ_self m, w⟩, F2, φ2, G, s2, R2, ?_⟩
      cases e1 : body s2 with
      | no => rw [e1] at q; exact q.elim
      | exc c fs s3 => rw [e1] at q; exact q
      | ok f s3 =>
        rw [e1] at q
        cases f with
        | nx => exact fun F4 φ4 H4 σ4 l4 l5 R4 => ⟨F4, φ4, s3, R4, OutS.later (r := wLoop t body m s3) q l4 l5⟩
        | ct => exact fun F4 φ4 H4 σ4 l4 l5 R4 => ⟨F4, φ4, s3, R4, OutS.later (r := wLoop t body m s3) q l4 l5⟩
        | brk => exact q
        | ret r => exact q
end
section
variable {X : Cx} {C : Kls} {W : WX} {a b e tgx iter : Expr} {st : Stmt} {sts : List Stmt} {ma mb me : Mo Vl} {mi : Mo (List D)} {mt : Mo Bool} {mf mg : Mo Fl} {pos p : Pos} {tg : Tg} {g : TG} {x : Str} {i : Nat}
theorem me_move (h : PE X e (tVar i)) : PE X e (lif X.K C W (eMove i)) := by
  refine PEwk h fun σ H Q ⟨F, φ, G, s, R, o⟩ => ?_
  cases q : eMove i s with
  | ok r s' =>
    rw [q] at o
    obtain ⟨v, h1, h2, h3⟩ := eMove_ok R q
    exact ⟨v, h1, o F φ H v (Same.refl F) (List.prefix_refl φ) h2 h3⟩
  | exc c fs s' =>
    unfold eMove at q
    split at q <;> cases q
  | no => rw [q] at o; exact o.elim
theorem mss_nil : PSs X [] (lifS X.K C W (pur .nx)) := PSswk pss_nil fun E σ H ⟨F, φ, G, s, R, o⟩ => o F φ H σ (Same.refl F) (List.prefix_refl φ) R
theorem mss_cons (h1 : PS X st (lifS X.K C W mf)) (h2 : PSs X sts (lifS X.K C W mg)) : PSs X (st :: sts) (lifS X.K C W (seqS mf mg)) := by
  refine PSswk (pss_cons h1 h2) fun E σ H ⟨F, φ, G, s, R, o⟩ => ?_
  refine ⟨F, φ, G, s, R, ?_⟩
  have o : OutS X.K C W F φ G E ((mf s).bind fun r => match r with
    | .nx => mg
    | r => pur r) := o
  cases e : mf s with
  | ok f s' =>
    rw [e] at o
    cases f with
    | nx => exact fun F' φ' H' σ' l1 l2 R1 => ⟨F', φ', G, s', R1, OutS.later (r := mg s') o l1 l2⟩
    | brk => exact o
    | ct => exact o
    | ret r => exact o
  | exc c fs s' => rw [e] at o; exact o
  | no => rw [e] at o; exact o.elim
theorem ms_asg {pos' : Pos} (hN : X.N.Nodup) (hi : X.N[i]? = some x) (hx : Loc X.env.scope x) (he : PE X e (lif X.K C W ma)) (hs : swapsWith e (some (.Name x pos')) pos.line X.env = pure false) (hf : X.fn x = true ∨ X.env.scope.names.lookup x = some .local) : PS X (.Assign [.Name x pos'] e pos) (lifS X.K C W (asgS i ma)) := by
  refine PSwk (ps_set hN hi hx he hs hf) fun E σ H ⟨F, φ, G, s, R, o⟩ => ?_
  exact lif_bindS (f := ma) R o fun F' φ' H' v r s' l1 l2 R1 o1 q => q F' φ' H' _ (Same.refl F') (List.prefix_refl φ') (R1.setR o1)
theorem ms_asgComp {elt : Expr} {ifs : List Expr} {scope : Scope} {own : List (Str × Nat)} {spos py : Pos} {y : Str} (hc : X.calm = true) (hN : X.N.Nodup) (hy : X.N[i]? = some y) (hyl : X.env.scope.names.lookup y = some .local)
    (hsw : swapsWith (.ListComp elt [⟨tgx, iter, ifs, 0⟩] scope pos) (some (.Name y py)) spos.line X.env = pure true) (hi : PI X tgx iter (lifI X.K C W mi)) (ok : BlkOk X.N X.env.scope scope own) (hgt : TgOk X.K g tg) (hix : ∀ i ∈ tg.ix, i ∈ own.map (·.2))
    (hg : ∀ (s : Shared) (H : Hp) (Ca : Addr) (cl : List (Str × Addr)) (fp : List Addr), PG (X.blk s H scope (compEnvC scope cl Ca X.env) fp) tgx g) (ht : ∀ (s : Shared) (H : Hp) (Ca : Addr) (cl : List (Str × Addr)) (fp : List Addr), PTs (X.blk s H scope (compEnvC scope cl Ca X.env) fp) ifs (lifT X.K C W0 mt))
    (he : ∀ (s : Shared) (H : Hp) (Ca : Addr) (cl : List (Str × Addr)) (fp : List Addr), PE (X.blk s H scope (compEnvC scope cl Ca X.env) fp) elt (lif X.K C W0 me)) (hs : ∀ x, foldedSetIterable iter X.env x = pure x) :
    PS X (.Assign [.Name y py] (.ListComp elt [⟨tgx, iter, ifs, 0⟩] scope pos) spos) (lifS X.K C W (asgS i (compV tg mi mt me (own.map (·.2))))) := by
  refine PSwk (ps_setLc hc hN hy hyl hsw hi ok hg ht he hs) fun E σ H ⟨F, φ, G, s, R, o⟩ => ?_
  have z : lif X.K C W (compV tg mi mt me (own.map (·.2))) σ H (fun x H1 => gName i x σ H1 E.nx) :=
    lif_bindS (f := compV tg mi mt me (own.map (·.2))) R o fun F' φ' H' v r s' l1 l2 R1 o1 q => q F' φ' H' _ (Same.refl F') (List.prefix_refl φ') (R1.setR o1)
  obtain ⟨F1, φ1, G1, s1, R1, o1⟩ := z
  exact compV_ok hgt hix R1 o1
theorem ms_unp {ts : List Nat} {tes : List Expr} {k2 : Nat} {p2 : Pos} (hg : TgOk X.K g (.tp ts)) (hpg : PG X (.Tuple tes k2 p2) g) (he : PE X e (lif X.K C W ma)) (hs : swapsWithSole [.Tuple tes k2 p2] e pos.line X.env = pure false) (hw : swappedStores [.Tuple tes k2 p2] e X.env = pure none) : PS X (.Assign [.Tuple tes k2 p2] e pos) (lifS X.K C W (unpS ts ma)) := by
  refine PSwk (ps_asg he hpg hs hw) fun E σ H ⟨F, φ, G, s, R, o⟩ => ?_
  refine lif_bindS (f := ma) R o fun F' φ' H' v r s' l1 l2 R1 o1 q => ?_
  cases r with
  | fr _ => exact q.elim
  | hnd _ => exact q.elim
  | dat d =>
    have q : OutS X.K C W F' φ' G E (match tgSet (.tp ts) d s'.env with
      | some e => .ok .nx { s' with env := e }
      | none => .no) := q
    cases et : tgSet (.tp ts) d s'.env with
    | none => rw [et] at q; exact q.elim
    | some e =>
      rw [et] at q
      exact hg C F' φ' G s' σ H' v d e _ R1 o1 et fun σ' R2 _ => q F' φ' H' σ' (Same.refl F') (List.prefix_refl φ') R2
theorem ms_expr (he : PE X e (lif X.K C W ma)) (hs : swapsWith e none pos.line X.env = pure false) : PS X (.Expr e pos) (lifS X.K C W (exprS ma)) := by
  refine PSwk (ps_expr he hs) fun E σ H ⟨F, φ, G, s, R, o⟩ => ?_
  exact lif_bindS (f := ma) R o fun F' φ' H' v r s' l1 l2 R1 o1 q => q F' φ' H' σ (Same.refl F') (List.prefix_refl φ') R1
theorem ms_ret (he : PE X e (lif X.K C W ma)) : PS X (.Return (some e) pos) (lifS X.K C W (retS ma)) := by
  refine PSwk (ps_ret he) fun E σ H ⟨F, φ, G, s, R, o⟩ => ?_
  exact lif_bindS (f := ma) R o fun F' φ' H' v r s' l1 l2 R1 o1 q => q F' φ' H' v (Same.refl F') (List.prefix_refl φ') R1.toMl (VlOk.out o1)
theorem ms_retN : PS X (.Return none pos) (lifS X.K C W (pur (.ret (.dat .none)))) :=
  PSwk ps_retN fun E σ H ⟨F, φ, G, s, R, o⟩ => o F φ H .non (Same.refl F) (List.prefix_refl φ) R.toMl Sh.non
theorem ms_pass : PS X (.Pass pos) (lifS X.K C W (pur .nx)) := PSwk ps_pass fun E σ H ⟨F, φ, G, s, R, o⟩ => o F φ H σ (Same.refl F) (List.prefix_refl φ) R
theorem ms_break : PS X (.Break pos) (lifS X.K C W (pur .brk)) := PSwk ps_break fun E σ H ⟨F, φ, G, s, R, o⟩ => o F φ H σ (Same.refl F) (List.prefix_refl φ) R
theorem ms_cont : PS X (.Continue pos) (lifS X.K C W (pur .ct)) := PSwk ps_continue fun E σ H ⟨F, φ, G, s, R, o⟩ => o F φ H σ (Same.refl F) (List.prefix_refl φ) R
theorem ms_never : PS X st (lifS X.K C W fun _ => .no) := ⟨fun _ _ _ _ _ _ ⟨_, _, _, _, _, o⟩ => o.elim⟩
theorem ms_if {c : Expr} {as bs : List Stmt} (hc : PT X c (lifT X.K C W mt)) (ha : PSs X as (lifS X.K C W mf)) (hb : PSs X bs (lifS X.K C W mg)) : PS X (.If c as bs pos) (lifS X.K C W (ifS mt mf mg)) := by
  refine PSwk (ps_if hc ha hb) fun E σ H ⟨F, φ, G, s, R, o⟩ => ?_
  refine lifT_bindS (f := mt) (g := fun b => if b then mf else mg) R o fun F' φ' H' r s' l1 l2 R1 q => ?_
  cases r with
  | true => rw [if_pos rfl]; exact ⟨F', φ', G, s', R1, q⟩
  | false => rw [if_neg Bool.false_ne_true]; exact ⟨F', φ', G, s', R1, q⟩
theorem ms_for {body : List Stmt} (hp : PassesOwn (model X.prog X.w) X.A X.env X.xe) (hc : X.calm = true) (hi : PI X tgx iter (lifI X.K C W mi)) (hgt : TgOk X.K g tg) (hg : PG X tgx g) (hb : PSs X body (lifS X.K C W mf))
    (hs : ∀ x, foldedSetIterable iter X.env x = pure x) : PS X (.For tgx iter body [] pos) (lifS X.K C W (forS tg mi mf)) := by
  refine PSwk (ps_for hp hc hi hg hb hs) fun E σ H ⟨F, φ, G, s, R, o⟩ => ?_
  exact lifI_bindS (f := mi) (g := fun ds => fLoop tg mf ds) R o fun F' φ' H' J ds s' l1 l2 R1 hJ q => for_ok hgt R1 hJ q
theorem ms_while {c : Expr} {body : List Stmt} {n : Nat} (hp : PassesOwn (model X.prog X.w) X.A X.env X.xe) (hc : PT X c (lifT X.K C W mt)) (hb : PSs X body (lifS X.K C W mf)) : PS X (.While c body [] pos) (lifS X.K C W (whlS n mt mf)) :=
  PSwk (ps_while hp hc hb) fun E σ H ⟨F, φ, G, s, R, o⟩ => whl_ok R o
def stoS (i : Nat) (mk mv : Mo Vl) : Mo Fl := bnd mv fun r => bnd (fun s => match lget i s with | some ds => .ok ds s | none => .no) fun _ => bnd mk fun k => fun s => match asD (frz r), k, lget i s with
  | some d, .dat (.int n), some ds => match ixN ds.length n with
    | some j => .ok .nx (lput i (ds.set j d) s)
    | none => .no
  | _, _, _ => .no
theorem ms_sto {o k : Expr} {p2 : Pos} (hsub : PG X (.Subscript o k p2) (gSub (tVar i) (lif X.K C W mb) rSetL)) (hv : PE X e (lif X.K C W ma)) (hs : swapsWithSole [.Subscript o k p2] e pos.line X.env = pure false) (hw : swappedStores [.Subscript o k p2] e X.env = pure none) :
    PS X (.Assign [.Subscript o k p2] e pos) (lifS X.K C W (stoS i mb ma)) := by
  refine PSwk (ps_asg hv hsub hs hw) fun E σ H ⟨F, φ, G, s, R, o⟩ => ?_
  refine lif_bindS (f := ma) R o fun F1 φ1 H1 v r s1 l1 l2 R1 o1 q => ?_
  obtain ⟨F2, l3, R2, o2⟩ := R1.frz o1
  have q := OutS.later q l3 (List.prefix_refl φ1)
  cases e0 : lget i s1 with
  | none =>
    have q : OutS X.K C W F2 φ1 G E ((match lget i s1 with | some ds => (.ok ds s1 : Rs (List D)) | none => .no).bind fun _ => bnd mb fun k => fun s => match asD (frz r), k, lget i s with
      | some d, .dat (.int n), some ds => match ixN ds.length n with
        | some j => .ok .nx (lput i (ds.set j d) s)
        | none => .no
      | _, _, _ => .no) := q
    rw [e0] at q; exact q.elim
  | some d0 =>
    obtain ⟨a, vs0, h1, h2, h3, _⟩ := lget_ok R2 e0
    have q : OutS X.K C W F2 φ1 G E ((match lget i s1 with | some ds => (.ok ds s1 : Rs (List D)) | none => .no).bind fun _ => bnd mb fun k => fun s => match asD (frz r), k, lget i s with
      | some d, .dat (.int n), some ds => match ixN ds.length n with
        | some j => .ok .nx (lput i (ds.set j d) s)
        | none => .no
      | _, _, _ => .no) := q
    rw [e0] at q
    refine ⟨.ref a, h1, ?_⟩
    refine lif_bindS (f := mb) (g := fun k => fun s => match asD (frz r), k, lget i s with
      | some d, .dat (.int n), some ds => match ixN ds.length n with
        | some j => .ok .nx (lput i (ds.set j d) s)
        | none => .no
      | _, _, _ => .no) R2 q fun F3 φ3 H3 w rk s3 l4 l5 R3 o3 q3 => ?_
    cases ed : asD (frz r) with
    | none => rw [ed] at q3; exact q3.elim
    | some d =>
      rw [ed] at q3
      cases rk with
      | fr _ => exact q3.elim
      | hnd _ => exact q3.elim
      | dat dk =>
        cases dk <;> first | exact q3.elim | skip
        rename_i n
        cases e3 : lget i s3 with
        | none => rw [e3] at q3; exact q3.elim
        | some ds =>
          rw [e3] at q3
          dsimp only at q3
          obtain ⟨b, vs, k1, k2, k3, k4⟩ := lget_ok R3 e3
          rw [h1] at k1
          cases k1
          have hw' := o3.int_inv
          subst hw'
          cases e4 : ixN ds.length n with
          | none => rw [e4] at q3; exact q3.elim
          | some j =>
            rw [e4] at q3
            have hd : Sh X.K F3 v d := by
              cases r with
              | dat _ => cases ed; exact Sh.mono l4 o2
              | fr _ => cases ed; exact Sh.mono l4 o2
              | hnd _ => cases ed
            exact ⟨a, vs, n, j, rfl, rfl, k2, by rw [k3.len]; exact e4, q3 F3 φ3 _ σ (Same.refl F3) (List.prefix_refl φ3) (k4 _ _ (k3.set' j hd))⟩
def putD (f : Str) (d : D) : List (Str × D) → List (Str × D)
  | [] => [(f, d)]
  | (g, x) :: r => if g = f then (f, d) :: r else (g, x) :: putD f d r
def sfldS (c : Str) (i : Nat) (f : Str) (mv : Mo Vl) : Mo Fl := bnd mv fun r => fun s => match asD (frz r), cellOf i c s with
  | some d, some (n, fs) => if fs.length < 900 then .ok .nx { s with mem := s.mem.set n (.ins c (putD f d fs)) } else .no
  | _, _ => .no
theorem FldOk.len {K : PySem.W.Frag} {F : Hp} : ∀ {vs : List (Str × V)} {fs : List (Str × D)}, FldOk K F vs fs → vs.length = fs.length
  | [], [], _ => rfl
  | (_, _) :: _, (_, _) :: _, ⟨_, _, q⟩ => by simp [FldOk.len q]
  | [], _ :: _, h => h.elim
  | _ :: _, [], h => h.elim
theorem FldOk.put {K : PySem.W.Frag} {F : Hp} {f : Str} {v : V} {d : D} (hv : Sh K F v d) : ∀ {vs : List (Str × V)} {fs : List (Str × D)}, FldOk K F vs fs → FldOk K F (putF f v vs) (putD f d fs)
  | [], [], _ => ⟨rfl, hv, trivial⟩
  | (g, x) :: r, (g', y) :: t, ⟨e, h, q⟩ => by
    subst e
    unfold putF putD
    by_cases hg : g = f
    · subst hg; rw [if_pos rfl, if_pos rfl]; exact ⟨rfl, hv, q⟩
    · rw [if_neg hg, if_neg hg]; exact ⟨rfl, h, FldOk.put hv q⟩
  | [], _ :: _, h => h.elim
  | _ :: _, [], h => h.elim
theorem Rl.setC {K : PySem.W.Frag} {F : Hp} {φ : List Addr} {G : Hp} {s : S} {σ : L2.St} {H : Hp} {n : Nat} {a : Addr} {o : HO} {c : Cell} (h : Rl K C F φ G s σ H) (ha : φ[n]? = some a) (hnl : ∀ vs, H a ≠ some (.lst vs)) (hc : CellOk K C F (upd H a o) a c) : Rl K C F φ G { s with mem := s.mem.set n c } σ (upd H a o) := by
  have hm : a ∈ φ := List.mem_of_getElem? ha
  have hn : n < s.mem.length := by rw [← h.mlen]; exact (List.getElem?_eq_some_iff.mp ha).1
  refine ⟨⟨fun b u w => ?_, fun b u w => ?_, h.gF, h.gφ, h.fφ, h.nd, by show φ.length = (s.mem.set n c).length; rw [List.length_set]; exact h.mlen, fun k b d u1 u2 => ?_, fun x P k z => (h.tab x P k z).updH fun w => ?_⟩, h.len, fun j sl w => ?_, h.apart⟩
  · rw [upd_ne (fun z => by subst z; rw [h.fφ _ hm] at w; cases w)]; exact h.sub b u w
  · rw [upd_ne (fun z => by subst z; exact h.gφ _ u w hm)]; exact h.gs b u w
  · have u2 : (s.mem.set n c)[k]? = some d := u2
    by_cases hk : n = k
    · subst hk
      rw [List.getElem?_set_self hn] at u2
      cases u2
      rw [ha] at u1
      cases u1
      exact hc
    · rw [List.getElem?_set_ne hk] at u2
      have hb : b ≠ a := by
        rintro rfl
        exact hk (nodup_get h.nd ha u1)
      have r := h.cell k b d u1 u2
      cases d with
      | lst _ => obtain ⟨xs, r1, r2⟩ := r; exact ⟨xs, by rw [upd_ne hb]; exact r1, r2⟩
      | ins _ _ => obtain ⟨k, dx, xs, r0, r1, r2⟩ := r; exact ⟨k, dx, xs, r0, by rw [upd_ne hb]; exact r1, r2⟩
  · subst w
    obtain ⟨d, hd⟩ : ∃ d, s.mem[n]? = some d := ⟨_, List.getElem?_eq_getElem hn⟩
    have r := h.cell n P d ha hd
    have t := h.tab x P k z
    cases d with
    | lst _ => obtain ⟨xs, r1, _⟩ := r; exact t.neL r1 rfl
    | ins _ _ => obtain ⟨k, dx, xs, _, r1, _⟩ := r; exact t.neI r1 rfl
  · have r := h.slot j sl w
    cases sl with
    | un => trivial
    | dat _ => exact r
    | hnd _ => exact r
    | own _ =>
      obtain ⟨b, xs, r1, r2, r3, r4, r5, r6⟩ := r
      have hb : b ≠ a := fun z => r6 (z ▸ hm)
      exact ⟨b, xs, r1, by rw [upd_ne hb]; exact r2, r3, r4, r5, r6⟩
theorem ms_sfld {o : Expr} {c f : Str} {p2 : Pos} (hcl : ∀ k, C c = some k → Cls X.K k ∧ NoAttr X.K k f) (ho : PE X o (tVar i)) (hv : PE X e (lif X.K C W ma)) (hs : swapsWith e (some (.Attribute o f p2)) pos.line X.env = pure false) :
    PS X (.Assign [.Attribute o f p2] e pos) (lifS X.K C W (sfldS c i f ma)) := by
  refine PSwk (ps_fld ho hv hs) fun E σ H ⟨F, φ, G, s, R, o'⟩ => ?_
  refine lif_bindS (f := ma) R o' fun F1 φ1 H1 v r s1 l1 l2 R1 o1 q => ?_
  obtain ⟨F2, l3, R2, o2⟩ := R1.frz o1
  have q := OutS.later q l3 (List.prefix_refl φ1)
  cases ed : asD (frz r) with
  | none => rw [ed] at q; exact q.elim
  | some d =>
    cases e0 : cellOf i c s1 with
    | none => rw [ed, e0] at q; exact q.elim
    | some nf =>
      obtain ⟨n, fs⟩ := nf
      rw [ed, e0] at q
      obtain ⟨a, k, dx, vs, k1, k7, k2, k3, k4, k5, k6⟩ := cellOf_ok R2 e0
      have q : OutS X.K C W F2 φ1 G E (if fs.length < 900 then .ok .nx { s1 with mem := s1.mem.set n (.ins c (putD f d fs)) } else .no) := q
      by_cases hz : fs.length < 900
      · rw [if_pos hz] at q
        obtain ⟨c1, c2⟩ := hcl k k4
        have hd : Sh X.K F2 v d := by
          cases r with
          | dat _ => cases ed; exact o2
          | fr _ => cases ed; exact o2
          | hnd _ => cases ed
        refine ⟨.ref a, k1, a, k, dx, vs, rfl, k5, c1, c2, by rw [FldOk.len k6]; omega, ?_⟩
        exact q F2 φ1 _ σ (Same.refl F2) (List.prefix_refl φ1) (R2.setC k2 (fun vs z => by rw [k5] at z; cases z) ⟨k, dx, _, k4, upd_same, FldOk.put hd k6⟩)
      · rw [if_neg hz] at q; exact q.elim
end
end Gq

namespace Gq
open PySem PySem.Spec PyProof.Rows L2 GxR

def gX (X : Cx) (B : Around) (s2 : Shared) (H2 : Hp) (fp : List Addr) (x : Str) (cenv : Env) (pn : List (Addr × Obj)) : Cx where
  prog := X.prog
  w := X.w
  K := X.K
  mg := X.mg
  base := X.base
  A := B.deeper cenv
  N := [x]
  s_0 := s2
  H_0 := H2
  env := cenv
  outer := X.stack
  stack := cenv :: X.stack
  ex := fp
  calm := true
  fn := fun _ => true
  pn := pn
  xe := fun _ _ => False
theorem over_comp {A : Around} {elt : Expr} {gs : List Comprehension} {scope : Scope} {pos : Pos} {it acc : Value} {env : Env} : A.over (.compLoop (.GeneratorExp elt gs scope pos) 0 it acc env) [] = A.deeper env := by
  first
    | rfl
    | (obtain ⟨hd, d, fr, gs, u⟩ := A; simp [Around.over, Around.deeper, marksOver, frameCount, unitsOf, envsOf, guardsOf, pushEnvs, pushGuards, Code.envs, Code.env?, Code.isFrame, Code.guards, Code.isGuard, Code.weight, Code.frames, Code.isCreation, Code.isCaller, Code.cUnits])
theorem over_compS {A : Around} {elt : Expr} {gs : List Comprehension} {scope : Scope} {pos : Pos} {it acc : Value} {env : Env} : A.over (.compStart (.GeneratorExp elt gs scope pos) 0 it acc env) [] = A.deeper env := by
  first
    | rfl
    | (obtain ⟨hd, d, fr, gs, u⟩ := A; simp [Around.over, Around.deeper, marksOver, frameCount, unitsOf, envsOf, guardsOf, pushEnvs, pushGuards, Code.envs, Code.env?, Code.isFrame, Code.guards, Code.isGuard, Code.weight, Code.frames, Code.isCreation, Code.isCaller, Code.cUnits])
def tAllN (J : It) (g : TG) (te : TE) (Q : VK) : Nat → Nat → L2.St → Hp → Prop
  | 0, j, _, H => J.stop j H ∧ Q (.bl true) H
  | n + 1, j, σ, H => J.go j H ∧ ∀ x H', J.yld j H x H' → g x σ H' fun σ2 H2 => te σ2 H2 fun v H3 => ∃ b, v = .bl b ∧ (b = true → tAllN J g te Q n (j + 1) σ2 H3) ∧ (b = false → Q (.bl false) H3)
def tAllG (P : Addr) (wi : TI) (te : TE) : TE := fun σ H Q => wi σ H fun J H1 => TabG H1 P ∧ ∀ H2, Tabbed P H1 H2 → ∃ n, tAllN J (gName 0) te Q n 0 [none] H2
theorem Inv.gens {X : Cx} {pins : List (Addr × Obj)} {σ : L2.St} {H : Hp} {s s' : Shared} (I : Inv X pins σ H s) (h : s'.heap = s.heap) (ho : s'.os = s.os) (hg : AllBare s'.gens) : Inv X pins σ H s' := by
  obtain ⟨h', g', d', t', o'⟩ := s'
  obtain ⟨h0, g0, d0, t0, o0⟩ := s
  cases h
  cases ho
  exact ⟨I.ok, I.os, hg, I.base, I.loc, I.cell, I.free, I.freeC, I.pin, I.hok, I.len⟩
def RA (Y : Cx) (Q : VK) : Nat → Shared → Shared → Prop := fun n _ s₁ => n = 0 ∧ ∃ σ H, Inv Y [] σ H s₁ ∧ Q (.bl true) H
def YA (Y : Cx) (Q : VK) : Protocol := fun _ _ v s kap => ∃ b σ H, v = .bool b ∧ Inv Y [] σ H s ∧ (b = false → Q (.bl false) H) ∧ (b = true → ∀ s'' : Shared, s''.heap = s.heap → s''.os = s.os → AllBare s''.gens → kap (.send .none) s'')
section
variable {X : Cx} {B : Around} {s2 : Shared} {H2 : Hp} {fp : List Addr} {x : Str} {cenv : Env} {pn : List (Addr × Obj)} {elt iter : Expr} {px pos : Pos} {scope : Scope} {te : TE} {Q : VK} {it : Addr} {tn : Nat → Heap → Prop} {J : It}
theorem seg_allLoop (hB : B.handled = none) (hel : PE (gX X B s2 H2 fp x cenv pn) elt te) (hgt : PG (gX X B s2 H2 fp x cenv pn) (.Name x px) (gName 0)) (hco : cenv.scope.isCoroutine = false)
    (T : Turn X.prog X.w X.K (.Name x px) J fp it tn) (stat : ∀ {H' : Hp}, (∀ b ∈ fp, H' b = none) → ∀ b ∈ fp, FpOk (gX X B s2 H2 fp x cenv pn) [] H' b) :
    ∀ (n j : Nat) (s₀ s : Shared) (σ : L2.St) (H : Hp), Inv (gX X B s2 H2 fp x cenv pn) [] σ H s → tn j s.heap → (∀ b ∈ fp, H b = none) → tAllN J (gName 0) te Q n j σ H →
      Seg (model X.prog X.w) B (fun n s₀ r s₁ => r = .ok .next ∧ RA (gX X B s2 H2 fp x cenv pn) Q n s₀ s₁) (YA (gX X B s2 H2 fp x cenv pn) Q) n s₀
        (.compLoop (.GeneratorExp elt [⟨.Name x px, iter, [], 0⟩] scope pos) 0 (.ref it) .none cenv)
        ((model X.prog X.w).den (.compLoop (.GeneratorExp elt [⟨.Name x px, iter, [], 0⟩] scope pos) 0 (.ref it) .none cenv)) [] s := by
  have eA : B.over (.compLoop (.GeneratorExp elt [⟨.Name x px, iter, [], 0⟩] scope pos) 0 (.ref it) .none cenv) [] = (gX X B s2 H2 fp x cenv pn).A := over_comp
  intro n
  induction n with
  | zero =>
    intro j s₀ s σ H I st fr w
    obtain ⟨stop, q⟩ := w
    show Seg _ B _ _ _ s₀ _ ((compTurn (.GeneratorExp elt [⟨.Name x px, iter, [], 0⟩] scope pos) 0 (.ref it) .none cenv).onRaise (leaving cenv)) [] s
    rw [compTurn_gen, Sem.onRaise_eq_wrap]
    refine seg_bind_wrap (wpAny_standAt ?_)
    refine seg_bind_wrap ?_
    rw [eA]
    refine thn (T.done (gX X B s2 H2 fp x cenv pn) rfl rfl rfl rfl j [] s σ H _ I (stat fr) st stop) fun r s1 ⟨hr, I1⟩ => ?_
    subst hr
    exact seg_end (.ok .next) ⟨rfl, rfl, σ, H, I1, q⟩
  | succ n ih =>
    intro j s₀ s σ H I st fr w
    obtain ⟨go, step⟩ := w
    show Seg _ B _ _ _ s₀ _ ((compTurn (.GeneratorExp elt [⟨.Name x px, iter, [], 0⟩] scope pos) 0 (.ref it) .none cenv).onRaise (leaving cenv)) [] s
    rw [compTurn_gen, Sem.onRaise_eq_wrap]
    refine seg_bind_wrap (wpAny_standAt ?_)
    refine seg_bind_wrap ?_
    rw [eA]
    refine thn (T.item (gX X B s2 H2 fp x cenv pn) rfl rfl rfl rfl j [] s σ H _ I (stat fr) st go) fun r s4 ⟨u, hr, h4⟩ => ?_
    subst hr
    refine seg_bind_wrap ?_
    rw [eA]
    refine thn h4 fun _ s5 ⟨y, H5, I5, r5, y5, st5, fr5⟩ => ?_
    have I5' := I5.pinned (stat fr5) (T.obj _ _ st5)
    refine seg_bind_wrap ?_
    rw [eA]
    refine wpAny_mono (hgt.run _ s5 σ H5 y u _ I5' r5 (step y H5 y5)) (fun _ s6 ⟨σ6, H6, I6, q6⟩ => ?_) fun _ _ z => z.elim
    simp only [List.forIn_nil]
    refine seg_bind_wrap (wpAny_pure ?_)
    simp only [if_true]
    have hy : ∀ v, yieldOut cenv v = yieldValue v := fun v => by simp only [yieldOut, hco, Bool.false_eq_true, if_false]
    simp only [hy]
    rw [Sem.bind_eq_wrap', Sem.bind_eq_wrap', Sem.wrap_wrap, Sem.wrap_wrap]
    refine seg_wrap ?_
    rw [eA]
    refine wpAny_mono (hel.run _ s6 σ6 H6 _ I6 q6) (fun y7 s7 ⟨v7, H7, I7, r7, b, e7, q7, q8⟩ => ?_) fun _ _ z => z.elim
    subst e7
    cases (show y7 = .bool b from r7)
    have keep : ∀ {s8 : Shared}, s8.heap = s7.heap → tn (j + 1) s8.heap := fun {s8} e => by
      rw [e]
      exact T.keep _ _ _ st5 fun b hb o e => (I7.pin (b, o) (List.mem_append_right _ (List.mem_append_right _ (mem_pinsAt hb e)))).1
    have fr7 : ∀ b ∈ fp, H7 b = none := fun b hb => by
      obtain ⟨o, e, d⟩ := T.obj _ _ st5 b hb
      exact (I7.pin (b, o) (List.mem_append_right _ (List.mem_append_right _ (mem_pinsAt hb e)))).2.1
    refine seg_at (seg_yield rfl rfl rfl ⟨b, σ6, H7, rfl, I7.unpinned, q8, fun hb s8 e1 e2 e3 => ?_⟩)
    exact seg_again rfl (ih (j + 1) s8 s8 σ6 H7 (Inv.gens I7.unpinned e1 e2 e3) (keep e1) fr7 (q7 hb))
theorem seg_allStart (hB : B.handled = none) (hel : PE (gX X B s2 H2 fp x cenv pn) elt te) (hgt : PG (gX X B s2 H2 fp x cenv pn) (.Name x px) (gName 0)) (hco : cenv.scope.isCoroutine = false)
    (T : Turn X.prog X.w X.K (.Name x px) J fp it tn) (stat : ∀ {H' : Hp}, (∀ b ∈ fp, H' b = none) → ∀ b ∈ fp, FpOk (gX X B s2 H2 fp x cenv pn) [] H' b)
    (n : Nat) (s₀ s : Shared) (σ : L2.St) (H : Hp) (I : Inv (gX X B s2 H2 fp x cenv pn) [] σ H s) (st : tn 0 s.heap) (fr : ∀ b ∈ fp, H b = none) (w : tAllN J (gName 0) te Q n 0 σ H) :
      Seg (model X.prog X.w) B (fun n s₀ r s₁ => r = .ok .next ∧ RA (gX X B s2 H2 fp x cenv pn) Q n s₀ s₁) (YA (gX X B s2 H2 fp x cenv pn) Q) n s₀
        (.compStart (.GeneratorExp elt [⟨.Name x px, iter, [], 0⟩] scope pos) 0 (.ref it) .none cenv)
        ((model X.prog X.w).den (.compStart (.GeneratorExp elt [⟨.Name x px, iter, [], 0⟩] scope pos) 0 (.ref it) .none cenv)) [] s := by
  have loop := seg_allLoop (iter := iter) (pos := pos) (scope := scope) hB hel hgt hco T stat n 0 s₀ s σ H I st fr w
  show Seg _ B _ _ _ s₀ _ ((compStart (.GeneratorExp elt [⟨.Name x px, iter, [], 0⟩] scope pos) 0 (.ref it) .none cenv).onRaise (leaving cenv)) [] s
  unfold compStart
  rw [Sem.onRaise_eq_wrap]
  show Seg _ B _ _ _ s₀ _ ((ask >>= _).wrap _ _ _ _) [] s
  refine seg_bind_wrap (wpAny_askSetting ?_)
  split
  · exact seg_again rfl loop
  · first
      | exact seg_bind_wrap (wpAny_rule (seg_bind_wrap (wpAny_standAt (seg_bind_wrap (T.self _ 0 s _ _ st (seg_again rfl loop))))))
      | (refine seg_bind_wrap (wpAny_rule ?_); show Seg _ B _ _ _ s₀ _ ((standAt iter.pos >>= _).wrap _ _ _ _) [] s; exact seg_bind_wrap (wpAny_standAt (seg_bind_wrap (T.self _ 0 s _ _ st (seg_again rfl loop)))))
theorem all_loop {a : Addr} {g : Nat} {go : Obj} {R : Result → Shared → Prop} (hh : X.A.handled = none) (hd : X.A.depth < recursionLimit) (hgen : ∀ h : Heap, h.get? a = some go → h.IsGen a g)
    (hR : ∀ b s' σ H, Inv (gX X B s2 H2 fp x cenv [(a, go)]) [] σ H s' → Q (.bl b) H → R (.ok (.ret (.bool b))) s') :
    ∀ (n : Nat) (s : Shared) (σ : L2.St) (H : Hp), Inv (gX X B s2 H2 fp x cenv [(a, go)]) [] σ H s →
      (∃ gs, s.gens[g]? = some gs ∧ gs.Goes (model X.prog X.w) X.A.in1.in1 (fun n s₀ r s₁ => r = .ok .next ∧ RA (gX X B s2 H2 fp x cenv [(a, go)]) Q n s₀ s₁) (YA (gX X B s2 H2 fp x cenv [(a, go)]) Q) n (.send .none) (s.setGen g .running)) →
      codeAny (model X.prog X.w) X.A (.builtin "all.loop" ⟨[.ref a], []⟩) R s := by
  have pin : ∀ {σ : L2.St} {H : Hp} {s : Shared}, Inv (gX X B s2 H2 fp x cenv [(a, go)]) [] σ H s → s.heap.IsGen a g := fun I => hgen _ (I.pin (a, go) (List.mem_append_left _ (List.mem_singleton.mpr rfl))).1
  intro n
  induction n with
  | zero =>
    intro s σ H I ⟨gs, hgs, hgo⟩
    refine codeAny_builtin F.entry_all_loop ?_
    rw [Around.under_plainId F.plain_all_loop _]
    show wpAny _ X.A.in1 (pyNext (.ref a) >>= _) _ _ s
    refine wpAny_bind (wpAny_pyNext_genexpQ (A := X.A.in1) (P := RA (gX X B s2 H2 fp x cenv [(a, go)]) Q) hh I.nolimit hd (pin I) hgs hgo (fun v s1 gs' hb hv => ?_) (fun s1 hp h' hk => ?_))
    · obtain ⟨b, σ1, H1, rfl, I1, qf, qt⟩ := hv
      cases b with
      | true => exact (qt rfl s1 rfl rfl I1.bare).elim
      | false =>
        refine wpAny_bind (wpAny_holding (wpAny_truthy_bool ?_))
        refine wpAny_bind (wpAny_letGo ?_)
        simp only [Bool.false_eq_true, if_false]
        refine wpAny_bind (wpAny_rule (wpAny_pure ?_))
        exact hR false _ σ1 H1 (Inv.gens I1 rfl rfl (allBare_setGen I1.bare hb)) (qf rfl)
    · obtain ⟨_, σ1, H1, I1, q⟩ := hp
      refine wpAny_bind (wpAny_rule (wpAny_pure ?_))
      exact hR true _ σ1 H1 (I1.call' (ch := []) rfl (Un.kept hk) (I1.hok.kept hk) (allBare_setGen I1.bare rfl) fun b z => by simp at z) q
  | succ m ih =>
    intro s σ H I ⟨gs, hgs, hgo⟩
    have hgl : g < s.gens.size := (Array.getElem?_eq_some_iff.mp hgs).1
    refine codeAny_builtin F.entry_all_loop ?_
    rw [Around.under_plainId F.plain_all_loop _]
    show wpAny _ X.A.in1 (pyNext (.ref a) >>= _) _ _ s
    refine wpAny_bind (GenW.wpAny_gsz (n := g + 1) hgl (wpAny_pyNext_genexpQ (A := X.A.in1) (P := RA (gX X B s2 H2 fp x cenv [(a, go)]) Q) hh I.nolimit hd (pin I) hgs hgo (fun v s1 gs' hb hv => ?_) (fun s1 hp h' hk => ?_)))
    · obtain ⟨b, σ1, H1, rfl, I1, qf, qt⟩ := hv
      intro hsz
      refine wpAny_bind (wpAny_holding (wpAny_truthy_bool ?_))
      refine wpAny_bind (wpAny_letGo ?_)
      cases b with
      | true =>
        simp only [if_true]
        have hsz1 : g < s1.gens.size := by
          have q : (s1.setGen g gs').gens.size = s1.gens.size := GenW.setGen_size _ _ _
          have hsz' : g + 1 ≤ (s1.setGen g gs').gens.size := hsz
          omega
        refine wpAny_pure ⟨plainId_quiet F.plain_all_loop _, ih (s1.setGen g gs') σ1 H1 (Inv.gens I1 rfl rfl (allBare_setGen I1.bare hb)) ⟨gs', setGen_at hsz1, ?_⟩⟩
        exact qt rfl _ rfl rfl (allBare_setGen (s := s1.setGen g gs') (allBare_setGen I1.bare hb) rfl)
      | false =>
        simp only [Bool.false_eq_true, if_false]
        refine wpAny_bind (wpAny_rule (wpAny_pure ?_))
        exact hR false _ σ1 H1 (Inv.gens I1 rfl rfl (allBare_setGen I1.bare hb)) (qf rfl)
    · obtain ⟨hn, _⟩ := hp
      exact absurd hn (Nat.succ_ne_zero m)
structure GenS0 (scope : Scope) (x : Str) : Prop where
  kind : scope.kind = .function
  co : scope.isCoroutine = false
  cell : ∀ y ∈ scope.names, y.2 ≠ .cell
  free : ∀ y ∈ scope.names, y.2 ≠ .free
  dot : scope.names.lookup (".0" : Str) = some NameKind.local
  loc : scope.names.lookup x = some .local
theorem clo_nil {cells : List (Str × Addr)} : ∀ {names : List (Str × NameKind)} {acc : List (Str × Addr)}, (∀ y ∈ names, y.2 ≠ .free) → cloFrom cells names acc = acc
  | [], _, _ => rfl
  | (n, k) :: r, acc, h => by
    unfold cloFrom
    have hk : (k == NameKind.free) = false := by
      have := h (n, k) List.mem_cons_self
      cases k <;> first | rfl | exact absurd rfl this
    rw [hk, if_neg Bool.false_ne_true]
    exact clo_nil fun y hy => h y (List.mem_cons_of_mem _ hy)
theorem pe_allG {c P : Addr} {p gpos : Pos} {wi : TI} {k : Nat}
    (hr : Room (k + 3) X.A) (hg : Gl X "all") (hm : X.mg "all" = none) (hb : bootBuiltins "all" = some (.builtin "all")) (TB : TabB X.base X.mg c P) (hcode : X.env.code = .ref c) (S : GenS0 scope x) (hi : PI X (.Name x px) iter wi)
    (hel : ∀ (B : Around) (s2 : Shared) (H2 : Hp) (fp : List Addr) (cenv : Env) (pn : List (Addr × Obj)), cenv.scope = scope → Room k (B.deeper cenv) → PE (gX X B s2 H2 fp x cenv pn) elt te)
    (hs : ∀ v, genFold iter X.env v = pure v) {apos : Pos}
    (he : starEach [.GeneratorExp elt [⟨.Name x px, iter, [], 0⟩] scope gpos] X.env = (false, eval (.GeneratorExp elt [⟨.Name x px, iter, [], 0⟩] scope gpos) X.env) :: starEach [] X.env := by rfl) :
    PE X (.Call (.Name "all" p) [.GeneratorExp elt [⟨.Name x px, iter, [], 0⟩] scope gpos] [] apos) (tAllG P wi te) := by
  refine ⟨fun pins s σ H Q I h => ?_⟩
  have hh : X.A.handled = none := hr.hd
  have hdep : X.A.depth < recursionLimit := hr.depth
  refine wpAny_Call_Name_kw (ld_blt I hg hm hb ?_)
  refine PyProof.Rows.callWith_builtin1 ?_ he (by rfl)
  rw [he]
  show wpAny _ _ (spliced ((false, eval (.GeneratorExp elt [⟨.Name x px, iter, [], 0⟩] scope gpos) X.env) :: backTo apos (starEach [] X.env))) _ _ s
  refine Calls.spliced_cons ?_
  refine wpAny_GeneratorExp_make S.co (closure_ok fun y hy z => absurd z (S.free y hy)) S.cell S.dot S.kind hdep ?_ hs
  refine thn (hi.run pins s σ H _ I h) fun xv s1 h1 => thn h1 fun itv s2 h2 => ?_
  obtain ⟨it, fp, tn, J, H1, rfl, I2, T, st2, f2, ⟨ps, hP, ht⟩, q1⟩ := h2
  have hPs : s2.heap.get? P = some { cls := .none, data := .fields ps } := I2.hok P _ hP
  have cd : PySem.W.CodeHd s2.heap c P := TB.code.keeps fun b u e => I2.bk b u e
  have hPfp : P ∉ fp := fun z => by
    have := (f2 P z).1
    rw [hP] at this; cases this
  have hPst : P ∉ frs X.stack := fun z => by
    have := I2.stkFree P z
    rw [hP] at this; cases this
  have cont : ∀ (code : Value) (h3 : Heap) (tk : Nat) (ps' : Array Value), Heap.ExtBut P s2.heap h3 → s2.heap.objs.size ≤ h3.objs.size → h3.get? P = some { cls := .none, data := .fields ps' } → (∃ more, ps' = ps ++ more) → TriplesOk ps'.toList →
      wpAny (model X.prog X.w) X.A (builtinsFor X.env.globals X.env.builtins) (fun bi s₄ =>
        ∀ h', h'.Ns s₄.heap.objs.size (fun y => if y = ".0" then some (.ref it) else none) → Heap.SameBut s₄.heap.objs.size (s₄.heap.push { cls := .type "frame", data := .dict #[] }) h' →
          wpAny (model X.prog X.w) X.A (spliced (backTo apos (starEach [] X.env))) (fun r s3 => wpAny (model X.prog X.w) X.A (call (.builtin "all") (.ref h'.objs.size :: r)) (EP X pins σ Q) X.xe s3) X.xe
            { s₄ with
            gens := s₄.gens.push (.fresh (.compStart (.GeneratorExp elt [⟨.Name x px, iter, [], 0⟩] scope gpos) 0 (.ref it) .none (genEnv scope (cloFrom X.env.cells scope.names []) s₄.heap.objs.size code bi X.env))),
            toks := s₄.toks + 1 + 1 + 1,
            heap := h'.push { cls := .type "generator", data := .fields #[.int s₄.gens.size 0, .str "<genexpr>" (s₄.toks + 1), .str (X.env.qual ++ "<genexpr>") (s₄.toks + 1 + 1)] } }) X.xe { s2 with heap := h3, toks := tk } := by
    intro code h3 tk ps' hx hsz hP3 hmore ht3
    obtain ⟨bm, ob, e1, e2, e3, e4, e5, e6, e7, e8⟩ := TB.bm
    have keep3 : ∀ b u, b ≠ P → s2.heap.get? b = some u → h3.get? b = some u := fun b u hb e => hx b u hb e
    refine wpAny_builtinsFor (m := X.mg) (by rw [I2.ok.glob]; exact ((I2.mod.glob.keeps I2.bk)).extBut hx TB.gP) e1 e2 (keep3 _ _ e4 (I2.bk _ _ e5)) e6 e7 e8 ?_
    intro h' hn' hs'
    obtain ⟨more, rfl⟩ := hmore
    have hsz' : h'.objs.size = h3.objs.size + 1 := by rw [hs'.1, Heap.size_push]
    have keep' : ∀ b o, h3.get? b = some o → h'.get? b = some o := fun b o e => hs'.extBut b o (Nat.ne_of_lt (Heap.lt_size e)) (Heap.get?_push_of_some _ e)
    obtain ⟨go, hgo⟩ : ∃ go : Obj, go = { cls := .type "generator", data := .fields #[.int s2.gens.size 0, .str "<genexpr>" (tk + 1), .str (X.env.qual ++ "<genexpr>") (tk + 1 + 1)] } := ⟨_, rfl⟩
    have hgen : ∀ h : Heap, h.get? h'.objs.size = some go → h.IsGen h'.objs.size s2.gens.size := fun h e => ⟨go, _, _, e, by rw [hgo], by rw [hgo], by rw [hgo]⟩
    have hgd : ∀ v, go.data ≠ .cell v := fun v z => by rw [hgo] at z; cases z
    rw [clo_nil S.free]
    obtain ⟨cenv, hce⟩ : ∃ cenv : Env, cenv = genEnv scope [] h3.objs.size code builtinsNs X.env := ⟨_, rfl⟩
    have c1 : cenv.scope = scope := by rw [hce]; rfl
    have c2 : cenv.locals = h3.objs.size := by rw [hce]; rfl
    have c3 : cenv.cells = [] := by rw [hce]; rfl
    have c4 : cenv.frame = some h3.objs.size := by rw [hce]; rfl
    have c5 : cenv.globals = X.env.globals := by rw [hce]; rfl
    have c6 : cenv.builtins = builtinsNs := by rw [hce]; rfl
    show wpAny _ _ _ _ _ { s2 with gens := s2.gens.push (.fresh (.compStart (.GeneratorExp elt [⟨.Name x px, iter, [], 0⟩] scope gpos) 0 (.ref it) .none (genEnv scope [] h3.objs.size code builtinsNs X.env))), toks := tk + 1 + 1 + 1, heap := h'.push { cls := .type "generator", data := .fields #[.int s2.gens.size 0, .str "<genexpr>" (tk + 1), .str (X.env.qual ++ "<genexpr>") (tk + 1 + 1)] } }
    rw [← hgo, ← hce]
    have keepA : ∀ b o, b ≠ P → s2.heap.get? b = some o → (h'.push go).get? b = some o := fun b o hb e => Heap.get?_push_of_some _ (keep' b o (keep3 b o hb e))
    have hpushed : (h'.push go).get? h'.objs.size = some go := Heap.get?_push_size _ (by rw [hgo]; rfl)
    have hbare : AllBare (s2.gens.push (.fresh (.compStart (.GeneratorExp elt [⟨.Name x px, iter, [], 0⟩] scope gpos) 0 (.ref it) .none cenv))) := AllBare.push I2.bare rfl
    have J5 := inv_tab (more := more) (h' := h'.push go) (g' := s2.gens.push (.fresh (.compStart (.GeneratorExp elt [⟨.Name x px, iter, [], 0⟩] scope gpos) 0 (.ref it) .none cenv))) (d' := s2.drawn) (t' := tk + 1 + 1 + 1) I2 hP keepA (Heap.get?_push_of_some _ (keep' P _ hP3)) hbare
    obtain ⟨HG, hHG⟩ : ∃ HG, HG = upd H1 P (.tbl (ps ++ more)) := ⟨_, rfl⟩
    rw [← hHG] at J5
    have HGn : ∀ b, b ≠ P → HG b = H1 b := fun b hb => by rw [hHG]; exact upd_ne hb
    have young : ∀ b, s2.heap.objs.size ≤ b → H1 b = none ∧ HG b = none ∧ b ∉ frs X.stack ∧ b ≠ P := fun b hb => by
      have n1 : H1 b = none := I2.hok.fresh hb
      have n2 : b ≠ P := fun z => by rw [z, hP] at n1; cases n1
      refine ⟨n1, by rw [HGn b n2]; exact n1, fun z => ?_, n2⟩
      rcases List.mem_cons.mp (I2.stkSub b z) with e | e
      · exact absurd (Nat.lt_of_lt_of_le I2.lt (e ▸ hb)) (Nat.lt_irrefl _)
      · exact I2.nofs hb e
    have hCs : s2.heap.objs.size ≤ h3.objs.size := hsz
    have has : s2.heap.objs.size ≤ h'.objs.size := by rw [hsz']; exact Nat.le_succ_of_le hsz
    have aC : h'.objs.size ≠ h3.objs.size := by rw [hsz']; exact Nat.succ_ne_self _
    have fpS : ∀ b ∈ fp, b ∉ frs X.stack := fun b hb z => by
      obtain ⟨g0, g1, g2, _⟩ := f2 b hb
      rcases List.mem_cons.mp (I2.stkSub b z) with e | e
      · exact g1 e
      · exact g2 e
    have fpL : ∀ b ∈ fp, b < s2.heap.objs.size := fun b hb => by
      obtain ⟨o, e, _⟩ := T.obj _ _ st2 b hb
      exact Heap.lt_size e
    have hok5 : (gX X X.A.in1.in1 s2 H1 fp x cenv [(h'.objs.size, go)]).Ok := by
      refine ⟨I2.ok.mod, by show cenv.scope.kind = _; rw [c1]; exact S.kind, by show cenv.globals = _; rw [c5]; exact I2.ok.glob, c6, by show _ ≤ cenv.locals; rw [c2]; exact hCs, ?_, ?_, ?_, fun _ => hh, Around.frames_deeper I2.ok.frames, .inr ⟨rfl, by show cenv.frame = some cenv.locals; rw [c4, c2]⟩, ?_, I2.bs, Nat.le_trans I2.ok.bsz I2.sz, ?_, fpS, I2.stack, I2.stkFree⟩
      · intro y z d e _
        have e : cenv.cells.lookup y = some d := e
        rw [c3] at e; cases e
      · intro y e
        have e : scope.names.lookup y = some .cell ∨ scope.names.lookup y = some .free := by rw [← c1]; exact e
        rcases e with e | e
        · exact absurd rfl (S.cell _ (PySem.mem_of_lookup e))
        · exact absurd rfl (S.free _ (PySem.mem_of_lookup e))
      · intro y d _ e
        have e : cenv.cells.lookup y = some d := e
        rw [c3] at e; cases e
      · intro b hb
        refine ⟨fun z => ?_, fun y d e => ?_⟩
        · have : b < s2.heap.objs.size := fpL b hb
          have z : b = cenv.locals := z
          rw [c2] at z
          rw [z] at this
          exact absurd (Nat.lt_of_lt_of_le this hCs) (Nat.lt_irrefl _)
        · have e : cenv.cells.lookup y = some d := e
          rw [c3] at e; cases e
      · intro b o e hb
        obtain ⟨g0, g1, g2, g3, _⟩ := f2 b hb
        rcases g3 with g3 | g3
        · exact I2.ok.noex b o e g3
        · exact absurd (Nat.lt_of_lt_of_le (Heap.lt_size e) (Nat.le_trans I2.ok.bsz g3)) (Nat.lt_irrefl _)
    have nP : ∀ b, H1 b = none → b ≠ P := fun b n z => by rw [z, hP] at n; cases n
    have un : Un (frs X.stack) fp H1 HG s2.heap (h'.push go) := by
      refine ⟨fun b o e n _ _ => keepA b o (nP b n) e, fun b o e n _ _ => ⟨o.slots, keepA b o (nP b n) e⟩, fun b o e n _ => by rw [HGn b (nP b n)]; exact n, fun b o e _ => ?_, fun b xs e => ?_, fun b o u e => ?_, fun b qs e => ?_⟩
      · by_cases hb : b = P
        · rw [hb]; exact ⟨_, Heap.get?_push_of_some _ (keep' P _ hP3)⟩
        · exact ⟨o, keepA b o hb e⟩
      · rw [HGn b fun z => by rw [z, hP] at e; cases e]; exact e
      · rw [HGn b fun z => by rw [z, hP] at e; cases e]; exact e
      · by_cases hb : b = P
        · rw [hb, hP] at e; cases e; rw [hb, hHG, upd_same]; exact ⟨more, rfl⟩
        · rw [HGn b hb, e]; exact ⟨#[], by simp⟩
    have I5 : Inv (gX X X.A.in1.in1 s2 H1 fp x cenv [(h'.objs.size, go)]) [] [none] HG { s2 with gens := s2.gens.push (.fresh (.compStart (.GeneratorExp elt [⟨.Name x px, iter, [], 0⟩] scope gpos) 0 (.ref it) .none cenv)), toks := tk + 1 + 1 + 1, heap := h'.push go } := by
      refine ⟨hok5, rfl, hbare, un, ⟨(fun y => if y = ".0" then some (.ref it) else none), ?_, fun i y v h1 h2 _ => ?_⟩, fun y d e => ?_, ?_, fun y d e => ?_, fun q hq => ?_, J5.hok, rfl⟩
      · show Heap.Ns _ cenv.locals _
        rw [c2]; exact hn'.push _
      · exfalso
        cases i with
        | zero => cases h2
        | succ i => cases h1
      · have e : cenv.cells.lookup y = some d := e
        rw [c3] at e; cases e
      · show HG cenv.locals = none
        rw [c2]; exact (young _ hCs).2.1
      · have e : cenv.cells.lookup y = some d := e
        rw [c3] at e; cases e
      · have hq : q ∈ [(h'.objs.size, go)] := by simpa [gX] using hq
        rw [List.mem_singleton.mp hq]
        exact ⟨hpushed, (young _ has).2.1, by show _ ≠ cenv.locals; rw [c2]; exact aC, (young _ has).2.2.1, hgd⟩
    have stat : ∀ {H' : Hp}, (∀ b ∈ fp, H' b = none) → ∀ b ∈ fp, FpOk (gX X X.A.in1.in1 s2 H1 fp x cenv [(h'.objs.size, go)]) [] H' b := fun hn b hb =>
      ⟨hn b hb, (hok5.exf b hb).1, fpS b hb, .inl hb, (hok5.exf b hb).2, fun q hq => by
        have hq : q ∈ [(h'.objs.size, go)] := by simpa [gX] using hq
        rw [List.mem_singleton.mp hq]
        exact fun z => absurd (Nat.lt_of_lt_of_le (fpL b hb) (z ▸ has)) (Nat.lt_irrefl _)⟩
    have hPG : PG (gX X X.A.in1.in1 s2 H1 fp x cenv [(h'.objs.size, go)]) (.Name x px) (gName 0) := pg_name (by show [x].Nodup; simp) rfl (.inl (by show cenv.scope.names.lookup x = _; rw [c1]; exact S.loc)) (.inl rfl)
    obtain ⟨n, w⟩ := q1 HG ⟨⟨ps ++ more, by rw [hHG]; exact upd_same, ht3⟩, HGn⟩
    refine Calls.spliced_nil ?_
    refine call_function_tree F.kind_all F.plain_all F.entry_all (F.args_all1 _) ?_
    unfold Builtin.«all»
    refine wpAny_bind (m := oneArg "all" _) (wpAny_pure ?_)
    refine wpAny_bind (wpAny_pyIter_gen (hgen _ hpushed) ?_)
    refine wpAny_pure ⟨plainId_quiet F.plain_all_loop _, ?_⟩
    refine all_loop (X := X) (s2 := s2) (H2 := H1) (fp := fp) (x := x) (cenv := cenv) (Q := Q) (go := go) hh hdep hgen (fun b s' σ' H' IY q => ?_) n _ [none] HG I5 ⟨_, Array.getElem?_push_size .., rfl, ?_⟩
    · exact ⟨.bl b, H', I2.call' (ch := fp) IY.os IY.base IY.hok IY.bare fun b hb => let ⟨_, g1, _, g3, g4, g5⟩ := f2 b hb; ⟨g3, g1, g4, g5⟩, rfl, q⟩
    · exact seg_allStart (B := X.A.in1.in1) hh (hel _ s2 H1 fp cenv _ c1 ((hr.in1.in1).deeper cenv)) hPG (by rw [c1]; exact S.co) T stat n _ _ [none] HG (Inv.gens I5 rfl rfl (allBare_setGen I5.bare rfl)) (T.keep _ _ _ st2 fun b hb o e => keepA b o (fun z => hPfp (z ▸ hb)) e)
        (fun b hb => by rw [HGn b fun z => hPfp (z ▸ hb)]; exact (f2 b hb).1) w
  refine ⟨I2.nolimit, ?_⟩
  cases hf : codeAmong gpos ps.toList with
  | none =>
    refine wpAny_genexprCodeX hcode (cd.code hPs ht) (cd.tab hPs) hf fun c' h' tk hx hge hlt hco' _ htab' _ => ?_
    obtain ⟨o1, vs, f1, tf, fl, tg, inF, tx, tt, op, _, _, _, _, _, _, _, _, _, htr, _⟩ := hco'
    exact cont _ h' tk _ hx (Nat.le_trans hge (Nat.le_of_lt hlt)) htab'.2 ⟨_, rfl⟩ htr
  | some cv =>
    refine wpAny_genexprCode_hit hcode (cd.code hPs ht) hf ?_
    exact cont cv s2.heap s2.toks ps (Heap.ExtBut.refl _ _) (Nat.le_refl _) hPs ⟨#[], by simp⟩ ht
end
end Gq

namespace Gq
open PySem PySem.Spec L2

def allLoop (me : Mo Vl) : List D → S → Rs Vl
  | [], s => .ok (.dat (.bool true)) s
  | d :: ds, s => match me ⟨[.dat d], s.mem⟩ with
    | .ok (.dat (.bool true)) s' => allLoop me ds { s with mem := s'.mem }
    | .ok (.dat (.bool false)) s' => .ok (.dat (.bool false)) { s with mem := s'.mem }
    | _ => .no
def allV (mi : Mo (List D)) (me : Mo Vl) : Mo Vl := bnd mi fun ds => allLoop me ds
section
variable {K : PySem.W.Frag} {C : Kls} {W : WX} {F F' : Hp} {φ φ' : List Addr} {G G' : Hp} {s s' : S} {σ : L2.St} {H H' : Hp} {m : List Cell}
theorem Rl.tabbed {x : Str} {P : Addr} (hx : tbK x = true) (hC : C x = some P) (h : Rl K C F φ G s σ H) (t : GxR.Tabbed P H H') : Rl K C F φ G s σ H' := by
  obtain ⟨⟨ps, t1, t2⟩, t3⟩ := t
  have tp := h.tab x P hx hC
  have eq : ∀ {b : Addr} {u : HO}, H b = some u → (∀ qs, u ≠ .tbl qs) → H' b = some u := fun {b u} e n => by
    rw [t3 b fun z => ?_]
    · exact e
    · obtain ⟨qs, q, _⟩ := tp.tb
      rw [z, q] at e
      exact n qs (Option.some.inj e).symm
  have nF : ∀ b u, F b = some u → b ≠ P := fun b u e z => by rw [z, tp.f] at e; cases e
  have nG : ∀ b u, G b = some u → b ≠ P := fun b u e z => by rw [z, tp.g] at e; cases e
  refine ⟨⟨fun b u e => ?_, fun b u e => ?_, h.gF, h.gφ, h.fφ, h.nd, h.mlen, fun n a c e1 e2 => ?_, fun y P' hy hP' => ?_⟩, h.len, fun i sl e => ?_, h.apart⟩
  · rw [t3 b (nF b u e)]; exact h.sub b u e
  · rw [t3 b (nG b u e)]; exact h.gs b u e
  · have r := h.cell n a c e1 e2
    cases c with
    | lst _ => obtain ⟨xs, r1, r2⟩ := r; exact ⟨xs, eq r1 (fun _ z => by cases z), r2⟩
    | ins _ _ => obtain ⟨k, dx, xs, r0, r1, r2⟩ := r; exact ⟨k, dx, xs, r0, eq r1 (fun _ z => by cases z), r2⟩
  · have t' := h.tab y P' hy hP'
    refine ⟨?_, t'.f, t'.g⟩
    by_cases z : P' = P
    · rw [z]; exact ⟨ps, t1, t2⟩
    · rw [t3 P' z]; exact t'.tb
  · have r := h.slot i sl e
    cases sl with
    | un => trivial
    | dat _ => exact r
    | hnd _ => exact r
    | own _ => obtain ⟨a, xs, r1, r2, r3⟩ := r; exact ⟨a, xs, r1, eq r2 (fun _ z => by cases z), r3⟩
theorem all_ok {J : It} {me : Mo Vl} {Q : VK} : ∀ (ds' ds : List D) (j : Nat) (F : Hp) (φ : List Addr) (s : S) (H : Hp) (σ' : L2.St), Rl K C F φ G s σ H → Srv K J F ds → ds.drop j = ds' → j ≤ ds.length → σ'.length = 1 → OutE K C W F φ G σ Q (allLoop me ds' s) →
    tAllN J (gName 0) (lif K C W0 me) Q ds'.length j σ' H
  | [], ds, j, F, φ, s, H, σ', h, hJ, hd, hj, hl, o => by
    have e : j = ds.length := by
      have := congrArg List.length hd
      rw [List.length_drop] at this
      simp at this
      omega
    exact ⟨(hJ j F H (Same.refl F) h.sub).1 e, o F φ H (.bl true) (Same.refl F) (List.prefix_refl φ) h Sh.bl⟩
  | d :: ds', ds, j, F, φ, s, H, σ', h, hJ, hd, hj, hl, o => by
    have hlt : j < ds.length := by
      have := congrArg List.length hd
      rw [List.length_drop] at this
      simp at this
      omega
    have dr : ds.drop j = ds[j] :: ds.drop (j + 1) := List.drop_eq_getElem_cons hlt
    rw [dr] at hd
    injection hd with e1 e2
    have hd' : ds[j]? = some d := by rw [← e1]; exact List.getElem?_eq_getElem hlt
    refine ⟨((hJ j F H (Same.refl F) h.sub).2 _ hd').1, fun x H2 y => ?_⟩
    obtain ⟨F2, l3, R2, hx⟩ := hJ.item h hd' y
    have o2 := OutE.later o l3 (List.prefix_refl φ)
    have e0 : σ'.set 0 (some x) = [some x] := by
      match σ', hl with
      | [_], _ => rfl
    show lif K C W0 me (σ'.set 0 (some x)) H2 _
    rw [e0]
    have R3 : Rl K C F2 φ (callG G s.env σ H2) ⟨[.dat d], s.mem⟩ [some x] H2 := by
      refine ⟨R2.call, rfl, fun i sl e => ?_, fun i k a oi ok => ?_⟩
      · cases i with
        | zero => cases e; exact ⟨x, rfl, hx⟩
        | succ i => cases e
      · obtain ⟨⟨es, z⟩, _⟩ := oi
        cases i with
        | zero => cases z
        | succ i => cases z
    refine ⟨F2, φ, _, _, R3, ?_⟩
    unfold allLoop at o2
    cases em : me ⟨[.dat d], s.mem⟩ with
    | no => rw [em] at o2; exact o2.elim
    | exc c fs s1 => rw [em] at o2; exact o2.elim
    | ok r s1 =>
      rw [em] at o2
      intro F4 φ4 H4 v l4 l5 R4 hv
      cases r with
      | fr _ => exact o2.elim
      | hnd _ => exact o2.elim
      | dat q =>
        cases q with
        | bool b =>
          have R5 := R2.after l4 l5 R4.toMl
          refine ⟨b, Sh.bl_inv hv, fun hb => ?_, fun hb => ?_⟩
          · subst hb
            exact all_ok ds' ds (j + 1) F4 φ4 { s with mem := s1.mem } H4 [some x] R5 ((hJ.mono l3).mono l4) e2 hlt rfl (OutE.later o2 l4 l5)
          · subst hb
            have o3 := OutE.later o2 l4 l5
            exact o3 F4 φ4 H4 (.bl false) (Same.refl F4) (List.prefix_refl φ4) R5 Sh.bl
        | _ => exact o2.elim
end
section
variable {X : Cx} {C : Kls} {W : WX}
theorem me_all {x y : Str} {px p gpos apos : Pos} {elt iter : Expr} {scope : Scope} {mi : Mo (List D)} {me : Mo Vl} {c P : Addr} {k : Nat}
    (hr : Room (k + 3) X.A) (hg : Gl X "all") (hm : X.mg "all" = none) (TB : GxR.TabB X.base X.mg c P) (hcode : X.env.code = .ref c) (hx : tbK y = true) (hC : C y = some P) (S : GenS0 scope x) (hi : PI X (.Name x px) iter (lifI X.K C W mi))
    (hel : ∀ (B : Around) (s2 : Shared) (H2 : Hp) (fp : List Addr) (cenv : Env) (pn : List (Addr × Obj)), cenv.scope = scope → Room k (B.deeper cenv) → PE (gX X B s2 H2 fp x cenv pn) elt (lif X.K C W0 me))
    (hs : ∀ v, genFold iter X.env v = pure v) : PE X (.Call (.Name "all" p) [.GeneratorExp elt [⟨.Name x px, iter, [], 0⟩] scope gpos] [] apos) (lif X.K C W (allV mi me)) := by
  refine PEwk (pe_allG hr hg hm PyProof.Rows.boot_all TB hcode S hi hel hs) fun σ H Q ⟨F, φ, G, s, R, o⟩ => ?_
  refine lifI_bindE (f := mi) (g := fun ds => allLoop me ds) (Q := Q) R o fun F1 φ1 H1 J ds s1 l1 l2 R1 hJ q => ?_
  refine ⟨(R1.tab y P hx hC).tb, fun H2 t => ⟨ds.length, all_ok ds ds 0 F1 φ1 s1 H2 [none] (R1.tabbed hx hC t) hJ rfl (Nat.zero_le _) rfl q⟩⟩
end
end Gq

namespace Gq
open PySem PySem.Spec L2

def noStar : Expr → Bool | .Starred _ _ => false | _ => true
theorem swPar {x y : Str} {px py pt pt2 : Pos} {kt k2 : Nat} {a b : Expr} {env : Env} (h1 : env.blockKind = .function) (hx : env.kindOf x = some .local) (hy : env.kindOf y = some .local) (hl : py.line = px.line) (hxy : x ≠ y) (ha : noStar a = true) (hb : noStar b = true)
    (hf : [a, b].all (foldedForSure 8) = false) (hc : [a, b].all (constantsAlone 8) = false) : swappedStores [.Tuple [.Name x px, .Name y py] kt pt] (.Tuple [a, b] k2 pt2) env = pure (some [x, y]) := by
  have e2 : ([x, y] : List Str).eraseDups.length = 2 := by
    rw [List.eraseDups_cons, List.filter_cons]
    have : (!(y == x)) = true := by simp [Ne.symm hxy]
    rw [this, if_pos rfl]
    simp [List.eraseDups_cons]
  unfold swappedStores
  dsimp only
  rw [if_neg (by simp [h1]), if_neg (by
    clear hf hc
    simp only [List.any_cons, List.any_nil, Bool.or_false]
    rw [Bool.or_eq_true]
    rintro (h | h)
    · cases a <;> first | (cases h; done) | (cases ha; done)
    · cases b <;> first | (cases h; done) | (cases hb; done))]
  have el : ((pure (none : Option (List Str)) : Sem (Option (List Str)))) = pure none := rfl
  simp only [List.filterMap_cons, List.filterMap_nil, List.head?_cons, Option.map_some, Option.getD_some, Expr.pos, hx, hy, hl, beq_self_eq_true, Bool.and_self, if_true]
  rw [if_neg (by simp [e2]), if_neg (by rw [hf]; exact Bool.false_ne_true), if_neg (by rw [hc]; exact Bool.false_ne_true)]
def parS (i j : Nat) (m : Mo (List Vl)) : Mo Fl := bnd m fun rs => match rs with
  | [r1, r2] => fun s => .ok .nx { s with env := (s.env.set i (slOf r1)).set j (slOf r2) }
  | _ => fun _ => .no
section
variable {X : Cx} {C : Kls} {W : WX}
theorem lifA_bindS {K : PySem.W.Frag} {F : Hp} {φ : List Addr} {G : Hp} {s : S} {σ : L2.St} {H : Hp} {E : Ends} {f : Mo (List Vl)} {g : List Vl → Mo Fl} (h : Rl K C F φ G s σ H) (o : OutS K C (fun c d σ' H' => W c d σ' H') F φ G E ((f s).bind g)) {R : List V → Hp → Prop}
    (k : ∀ F' φ' H' vs r s', Same F F' → φ <+: φ' → Rl K C F' φ' G s' σ H' → ArgsOk K F' φ' vs r → OutS K C W F' φ' G E (g r s') → R vs H') : lifA K C W f σ H R := by
  refine ⟨F, φ, G, s, h, ?_⟩
  cases e : f s with
  | ok r s' =>
    rw [e] at o
    exact fun F' φ' H' v l1 l2 R1 o1 => k F' φ' H' v r s' l1 l2 R1 o1 (OutS.later (r := g r s') o l1 l2)
  | exc c fs s' => rw [e] at o; exact fun F' φ' H' k d vs l1 l2 R1 => o F' φ' H' σ k d vs l1 l2 R1
  | no => rw [e] at o; exact o.elim
theorem ArgOk.vl {K : PySem.W.Frag} {F : Hp} {φ : List Addr} {G : Hp} {e : List Sl} {σ : L2.St} {H : Hp} {v : V} {r : Vl} (h : ArgOk K F φ v r) : VlOk K F φ G e σ H v r := by
  cases r with
  | dat d => exact h
  | fr _ => exact h.elim
  | hnd n => exact h
theorem ms_par {i j : Nat} {x y : Str} {a b : Expr} {px py pt pt2 pos : Pos} {kt k2 : Nat} {m : Mo (List Vl)} (hc : X.calm = true) (hN : X.N.Nodup) (hi : X.N[i]? = some x) (hj : X.N[j]? = some y) (hij : i ≠ j)
    (hx : X.env.scope.names.lookup x = some .local) (hy : X.env.scope.names.lookup y = some .local) (ha : PA X [a, b] (lifA X.K C W m))
    (hw : swappedStores [.Tuple [.Name x px, .Name y py] kt pt] (.Tuple [a, b] k2 pt2) X.env = pure (some [x, y])) :
    PS X (.Assign [.Tuple [.Name x px, .Name y py] kt pt] (.Tuple [a, b] k2 pt2) pos) (lifS X.K C W (parS i j m)) := by
  refine PSwk (ps_par hc hN hi hj hij hx hy ha hw) fun E σ H ⟨F, φ, G, s, R, o⟩ => ?_
  refine lifA_bindS (f := m) R o fun F' φ' H' vs rs s' l1 l2 R1 a1 q => ?_
  match rs, a1, q with
  | [r1, r2], .cons h1 (.cons h2 .nil), q =>
    refine ⟨_, _, rfl, ?_⟩
    have R2 := R1.setR (i := i) h1.vl
    have R3 := R2.setR (i := j) h2.vl
    exact q F' φ' H' _ (Same.refl F') (List.prefix_refl φ') R3
end
end Gq

namespace Gq
open PySem PySem.Spec L2

def enuD (ds : List D) : List D := ds.mapIdx fun i d => .tuple [.int i, d]
def zipD (xs ys : List D) : List D := List.zipWith (fun x y => .tuple [x, y]) xs ys
def itEnu (m : Mo (List Vl)) : Mo (List D) := bnd m fun rs => match rs with
  | [.dat (.list ds)] => pur (enuD ds)
  | _ => fun _ => .no
def itZip (m : Mo (List Vl)) : Mo (List D) := bnd m fun rs => match rs with
  | [.dat (.list xs), .dat (.list ys)] => pur (zipD xs ys)
  | [.dat (.tuple xs), .dat (.tuple ys)] => pur (zipD xs ys)
  | _ => fun _ => .no
theorem zipD_get {xs ys : List D} {i : Nat} {d : D} (h : (zipD xs ys)[i]? = some d) : ∃ x y, xs[i]? = some x ∧ ys[i]? = some y ∧ d = .tuple [x, y] := by
  unfold zipD at h
  rw [List.getElem?_zipWith] at h
  cases hx : xs[i]? with
  | none => rw [hx] at h; cases h
  | some x =>
    cases hy : ys[i]? with
    | none => rw [hx, hy] at h; cases h
    | some y => rw [hx, hy] at h; cases h; exact ⟨x, y, rfl, rfl, rfl⟩
section
variable {K : PySem.W.Frag} {F : Hp}
theorem srv_enu {a : Addr} {vs : List V} {ds : List D} (ha : SqL K F a vs) (t : ShA K F vs ds) : Srv K (Ite K a) F (enuD ds) := by
  intro i F' H' l1 l2
  have q : SqL K H' a vs := l2.seq (l1.seq ha)
  refine ⟨fun e => ⟨vs, q, by unfold enuD at e; rw [List.length_mapIdx] at e; rw [t.len, e]; exact Nat.le_refl _⟩, fun d e => ?_⟩
  unfold enuD at e
  rw [List.getElem?_mapIdx, Option.map_eq_some_iff] at e
  obtain ⟨d0, e, rfl⟩ := e
  obtain ⟨v, h1, h2⟩ := t.at e
  refine ⟨⟨vs, v, q, h1⟩, fun x H2 y => ?_⟩
  obtain ⟨T, x0, rfl, y1, y2, y3⟩ := y
  have := y3 vs q
  rw [h1] at this
  cases this
  exact .inr ⟨T, _, _, y1, y2, rfl, rfl, ShA.cons Sh.int (ShA.one (h2.mono l1))⟩
theorem srv_zipL {a b : Addr} {vs ws : List V} {xs ys : List D} (ha : SqL K F a vs) (ta : ShA K F vs xs) (hb : SqL K F b ws) (tb : ShA K F ws ys) : Srv K (Itz K a b) F (zipD xs ys) := by
  intro i F' H' l1 l2
  have qa : SqL K H' a vs := l2.seq (l1.seq ha)
  have qb : SqL K H' b ws := l2.seq (l1.seq hb)
  refine ⟨fun e => ⟨vs, ws, qa, qb, by unfold zipD at e; rw [List.length_zipWith] at e; rw [ta.len, tb.len]; omega⟩, fun d e => ?_⟩
  obtain ⟨x0, y0, e1, e2, rfl⟩ := zipD_get e
  obtain ⟨v, h1, h2⟩ := ta.at e1
  obtain ⟨w, h3, h4⟩ := tb.at e2
  refine ⟨⟨vs, ws, v, w, qa, qb, h1, h3⟩, fun x H2 y => ?_⟩
  obtain ⟨T, x1, x2, rfl, y1, y2, y3, y4⟩ := y
  have z1 := y3 vs qa
  have z2 := y4 ws qb
  rw [h1] at z1
  rw [h3] at z2
  cases z1
  cases z2
  exact .inr ⟨T, _, _, y1, y2, rfl, rfl, ShA.cons (h2.mono l1) (ShA.one (h4.mono l1))⟩
theorem srv_zipT {a b : Addr} {vs ws : List V} {xs ys : List D} (ha : SqT K F a vs) (ta : ShA K F vs xs) (hb : SqT K F b ws) (tb : ShA K F ws ys) : Srv K (RZ.ItzT K a b) F (zipD xs ys) := by
  intro i F' H' l1 l2
  have qa : SqT K H' a vs := Same.seqT l2 (Same.seqT l1 ha)
  have qb : SqT K H' b ws := Same.seqT l2 (Same.seqT l1 hb)
  refine ⟨fun e => ⟨vs, ws, qa, qb, by unfold zipD at e; rw [List.length_zipWith] at e; rw [ta.len, tb.len]; omega⟩, fun d e => ?_⟩
  obtain ⟨x0, y0, e1, e2, rfl⟩ := zipD_get e
  obtain ⟨v, h1, h2⟩ := ta.at e1
  obtain ⟨w, h3, h4⟩ := tb.at e2
  refine ⟨⟨vs, ws, v, w, qa, qb, h1, h3⟩, fun x H2 y => ?_⟩
  obtain ⟨T, x1, x2, rfl, y1, y2, y3, y4⟩ := y
  have z1 := y3 vs qa
  have z2 := y4 ws qb
  rw [h1] at z1
  rw [h3] at z2
  cases z1
  cases z2
  exact .inr ⟨T, _, _, y1, y2, rfl, rfl, ShA.cons (h2.mono l1) (ShA.one (h4.mono l1))⟩
end
section
variable {X : Cx} {C : Kls} {W : WX}
theorem lifA_bindI {K : PySem.W.Frag} {F : Hp} {φ : List Addr} {G : Hp} {s : S} {σ : L2.St} {H : Hp} {f : Mo (List Vl)} {g : List Vl → Mo (List D)} {Q : It → Hp → Prop} (h : Rl K C F φ G s σ H) (o : OutI K C W F φ G σ Q ((f s).bind g)) {R : List V → Hp → Prop}
    (k : ∀ F' φ' H' vs r s', Same F F' → φ <+: φ' → Rl K C F' φ' G s' σ H' → ArgsOk K F' φ' vs r → OutI K C W F' φ' G σ Q (g r s') → R vs H') : lifA K C W f σ H R := by
  refine ⟨F, φ, G, s, h, ?_⟩
  cases e : f s with
  | ok r s' =>
    rw [e] at o
    intro F' φ' H' v l1 l2 R1 o1
    refine k F' φ' H' v r s' l1 l2 R1 o1 ?_
    have o : OutI K C W F φ G σ Q (g r s') := o
    cases w : g r s' with
    | ok ds s2 => rw [w] at o; exact fun F2 φ2 H2 J l3 l4 R2 => o F2 φ2 H2 J (l1.trans l3) (l2.trans l4) R2
    | exc c fs s2 => rw [w] at o; exact fun F2 φ2 H2 k d vs l3 l4 R2 => o F2 φ2 H2 k d vs (l1.trans l3) (l2.trans l4) R2
    | no => rw [w] at o; exact o
  | exc c fs s' => rw [e] at o; exact o
  | no => rw [e] at o; exact o.elim
theorem mi_enu {e : Expr} {elts : List Expr} {kk : Nat} {p pos tpos : Pos} {m : Mo (List Vl)} (hg : Gl X "enumerate") (hm : X.mg "enumerate" = none) (ha : PA X [e] (lifA X.K C W m)) (hs : starEach [e] X.env = [(false, eval e X.env)]) :
    PI X (.Tuple elts kk tpos) (.Call (.Name "enumerate" p) [e] [] pos) (lifI X.K C W (itEnu m)) := by
  refine PIwk (pi_enum hg hm ha hs) fun σ H R ⟨F, φ, G, s, h, o⟩ => ?_
  refine lifA_bindI (f := m) h o fun F' φ' H' vs rs s' l1 l2 R1 a q => ?_
  match rs, a, q with
  | [.dat (.list ds)], .cons a .nil, q =>
    obtain ⟨b, ws, rfl, hS, t⟩ := Sh.lst_inv a
    exact ⟨b, ws, rfl, R1.sub.seq hS, q F' φ' H' _ (Same.refl F') (List.prefix_refl φ') R1 (srv_enu hS t)⟩
theorem mi_zip {e e2 : Expr} {elts : List Expr} {kk : Nat} {p pos tpos : Pos} {m : Mo (List Vl)} (hg : Gl X "zip") (hm : X.mg "zip" = none) (ha : PA X [e, e2] (lifA X.K C W m)) (hs : starEach [e, e2] X.env = (false, eval e X.env) :: starEach [e2] X.env) (hpl : (backTo pos (starEach [e2] X.env)).any (·.1) = false) :
    PI X (.Tuple elts kk tpos) (.Call (.Name "zip" p) [e, e2] [] pos) (lifI X.K C W (itZip m)) := by
  refine PIwk (RZ.pi_zipA hg hm ha hs hpl) fun σ H R ⟨F, φ, G, s, h, o⟩ => ?_
  refine lifA_bindI (f := m) h o fun F' φ' H' vs rs s' l1 l2 R1 a q => ?_
  match rs, a, q with
  | [.dat (.list xs), .dat (.list ys)], .cons a (.cons b .nil), q =>
    obtain ⟨a1, ws, rfl, hS, t⟩ := Sh.lst_inv a
    obtain ⟨b1, zs, rfl, hS2, t2⟩ := Sh.lst_inv b
    exact ⟨a1, b1, ws, zs, rfl, .inl ⟨R1.sub.seq hS, R1.sub.seq hS2, q F' φ' H' _ (Same.refl F') (List.prefix_refl φ') R1 (srv_zipL hS t hS2 t2)⟩⟩
  | [.dat (.tuple xs), .dat (.tuple ys)], .cons a (.cons b .nil), q =>
    obtain ⟨a1, ws, rfl, hS, t⟩ := Sh.tup_inv a
    obtain ⟨b1, zs, rfl, hS2, t2⟩ := Sh.tup_inv b
    exact ⟨a1, b1, ws, zs, rfl, .inr ⟨Same.seqT R1.sub hS, Same.seqT R1.sub hS2, q F' φ' H' _ (Same.refl F') (List.prefix_refl φ') R1 (srv_zipT hS t hS2 t2)⟩⟩
end
end Gq

namespace Gq
open PySem PySem.Spec L2

def cLoop2 (tg : Tg) (mi1 : Mo (List D)) (tg1 : Tg) (m : Mo Vl) (vs vs1 : List Nat) : List D → List D → S → Rs (List D)
  | [], acc, s => .ok acc s
  | d :: ds, acc, s => match tgSet tg d s.env with
    | none => .no
    | some e => (mi1 { s with env := e }).bind fun ds1 s2 =>
      if acc.length + ds1.length ≤ lim then (cLoop tg1 (pur true) m vs1 ds1 acc { s2 with env := wipeE s2.env vs1 }).bind fun acc' s3 => cLoop2 tg mi1 tg1 m vs vs1 ds acc' { s3 with env := wipeE s3.env vs }
      else .no
def comp2V (tg : Tg) (mi : Mo (List D)) (tg1 : Tg) (mi1 : Mo (List D)) (m : Mo Vl) (vs vs1 : List Nat) : Mo Vl := bnd mi fun ds => fun s =>
  if ds.length ≤ lim ∧ noOwnAt s.env vs = true then cEnd s vs (cLoop2 tg mi1 tg1 m vs vs1 ds [] { s with env := wipeE s.env vs }) else .no
theorem wipe_sub (σ : L2.St) {vs1 vs : List Nat} (h : ∀ i ∈ vs1, i ∈ vs) : wipe (wipe σ vs1) vs = wipe σ vs := by
  apply List.ext_getElem?
  intro j
  by_cases hj : j ∈ vs
  · have h1 := wipe_in (σ := wipe σ vs1) hj
    have h2 := wipe_in (σ := σ) hj
    have hl : (wipe (wipe σ vs1) vs).length = (wipe σ vs).length := by rw [wipe_length, wipe_length, wipe_length]
    cases q1 : (wipe (wipe σ vs1) vs)[j]? with
    | none =>
      have := List.getElem?_eq_none_iff.mp q1
      rw [List.getElem?_eq_none_iff.mpr (by omega)]
    | some a =>
      have hlt := (List.getElem?_eq_some_iff.mp q1).1
      rw [q1] at h1
      have q2 : (wipe σ vs)[j]? = some ((wipe σ vs)[j]'(by omega)) := List.getElem?_eq_getElem (by omega)
      rw [q2] at h2 ⊢
      simp only [Option.join_some] at h1 h2
      rw [h1, h2]
  · rw [wipe_out hj, wipe_out hj, wipe_out fun z => hj (h j z)]
section
variable {K : PySem.W.Frag} {C : Kls} {W : WX} {F F' : Hp} {φ φ' : List Addr} {G G' : Hp} {s s' : S} {σ : L2.St} {H H' : Hp} {m : List Cell}
theorem comp2_ok {g g1 : TG} {tg tg1 : Tg} {mi1 : Mo (List D)} {me : Mo Vl} {vs vs1 : List Nat} {J : It} {ds : List D} {Q : VK} (hg : TgOk K g tg) (hix : ∀ i ∈ tg.ix, i ∈ vs) (hg1 : TgOk K g1 tg1) (hix1 : ∀ i ∈ tg1.ix, i ∈ vs1) (hv : ∀ i ∈ vs1, i ∈ vs) (h : Rl K C F φ G s σ H) (hJ : Srv K J F ds)
    (hl : ds.length ≤ lim) (no : noOwnAt s.env vs = true) (o : OutE K C W F φ G σ Q (cEnd s vs (cLoop2 tg mi1 tg1 me vs vs1 ds [] { s with env := wipeE s.env vs }))) :
    ∀ p, H p = none → ∃ Wi : Nat → Nat → Hp → Prop, (∃ m, Wi 0 m (upd H p (.lst []))) ∧ ∀ i m H, Wi i m H →
      (J.stop i H ∧ Q (.ref p) H) ∨ (J.go i H ∧ ∃ Nx : Hp → Prop, (∀ H', Nx H' → ∃ m', m' < m ∧ Wi (i + 1) m' H') ∧ ∀ x H', J.yld i H x H' → g x (wipe σ vs) H' fun σ2 H2 => wipe σ2 vs = wipe σ vs ∧ (lifT K C W0 (pur true)) σ2 H2 fun b H3 =>
        if b = true then (lifI K C W0 mi1) σ2 H3 fun J1 H4 => ∃ W1 : Nat → Nat → Hp → Prop, (∃ m, W1 0 m H4) ∧ ∀ j k H, W1 j k H →
          (J1.stop j H ∧ Nx H) ∨ (J1.go j H ∧ ∃ Nx1 : Hp → Prop, (∀ H', Nx1 H' → ∃ k', k' < k ∧ W1 (j + 1) k' H') ∧ ∀ x H', J1.yld j H x H' → g1 x (wipe σ2 vs1) H' fun σ3 H5 => wipe σ3 vs1 = wipe σ2 vs1 ∧ (lifT K C W0 (pur true)) σ3 H5 fun b H6 =>
            if b = true then (lif K C W0 me) σ3 H6 fun y H7 => ∃ acc, H7 p = some (.lst acc) ∧ acc.length < sizeLine ∧ Nx1 (upd H7 p (.lst (acc ++ [y]))) else Nx1 H6)
        else Nx H3) := by
  intro p hp
  have hGp : G p = none := Ml.newG h.toMl hp
  have h1 : (sizeLine : Nat) = 16777216 := sizeLine_eq
  have hlim : lim = 1000000 := rfl
  refine ⟨fun i m Hi => m = ds.length - i ∧ i ≤ ds.length ∧ ∃ F1 φ1 s1 va acc, Same F F1 ∧ φ <+: φ1 ∧ Rl K C F1 φ1 (upd G p (.lst va)) s1 (wipe σ vs) Hi ∧ ShA K F1 va acc ∧
    OutE K C W F1 φ1 G σ Q (cEnd s vs (cLoop2 tg mi1 tg1 me vs vs1 (ds.drop i) acc s1)), ⟨ds.length, rfl, Nat.zero_le _, F, φ, { s with env := wipeE s.env vs }, [], [], Same.refl F, List.prefix_refl φ, (h.newGL hp).wipe vs, .nil, o⟩, ?_⟩
  rintro i m Hi ⟨rfl, hi, F1, φ1, s1, va, acc, l1, l2, R1, ta, o1⟩
  by_cases hlt : i < ds.length
  · have hd : ds[i]? = some ds[i] := List.getElem?_eq_getElem hlt
    have dr : ds.drop i = ds[i] :: ds.drop (i + 1) := List.drop_eq_getElem_cons hlt
    rw [dr] at o1
    refine .inr ⟨((hJ.mono l1 i F1 Hi (Same.refl F1) R1.sub).2 _ hd).1, fun Hn => ds.length - (i + 1) < ds.length - i ∧ ∃ F2 φ2 s2 va2 acc2, Same F F2 ∧ φ <+: φ2 ∧ Rl K C F2 φ2 (upd G p (.lst va2)) s2 (wipe σ vs) Hn ∧ ShA K F2 va2 acc2 ∧
      OutE K C W F2 φ2 G σ Q (cEnd s vs (cLoop2 tg mi1 tg1 me vs vs1 (ds.drop (i + 1)) acc2 s2)), fun H' ⟨w0, w⟩ => ⟨_, w0, rfl, hlt, w⟩, fun x H2 y => ?_⟩
    obtain ⟨F2, l3, R2, hx⟩ := (hJ.mono l1).item R1 hd y
    have o2 := OutE.later o1 l3 (List.prefix_refl φ1)
    unfold cLoop2 at o2
    cases et : tgSet tg ds[i] s1.env with
    | none => rw [et] at o2; exact o2.elim
    | some e =>
      rw [et] at o2
      dsimp only at o2
      refine hg C F2 φ1 (upd G p (.lst va)) s1 (wipe σ vs) H2 x ds[i] e _ R2 hx et fun σ3 R3 ws => ?_
      have ew : wipe σ3 vs = wipe (wipe σ vs) vs := ws vs hix
      have eww : wipe (wipe σ vs) vs = wipe σ vs := wipe_wipe σ vs
      refine ⟨ew.trans eww, F2, φ1, upd G p (.lst va), { s1 with env := e }, R3, ?_⟩
      intro F4 φ4 H4 l4 l5 R4
      have o3 := OutE.later o2 l4 l5
      rw [if_pos rfl]
      refine ⟨F4, φ4, upd G p (.lst va), { s1 with env := e }, R4, ?_⟩
      cases e1 : mi1 { s1 with env := e } with
      | no => rw [e1] at o3; exact o3.elim
      | exc c fs s2 => rw [e1] at o3; exact o3.elim
      | ok ds1 s2 =>
        rw [e1] at o3
        intro F5 φ5 H5 J1 l6 l7 R5 hJ1
        have o4 : OutE K C W F5 φ5 G σ Q (cEnd s vs (if acc.length + ds1.length ≤ lim then (cLoop tg1 (pur true) me vs1 ds1 acc { s2 with env := wipeE s2.env vs1 }).bind fun acc' s3 => cLoop2 tg mi1 tg1 me vs vs1 (ds.drop (i + 1)) acc' { s3 with env := wipeE s3.env vs } else .no)) := OutE.later o3 l6 l7
        by_cases hlen : acc.length + ds1.length ≤ lim
        · rw [if_pos hlen] at o4
          refine ⟨fun j k Hj => k = ds1.length - j ∧ j ≤ ds1.length ∧ ∃ F6 φ6 s6 va6 acc6, Same F5 F6 ∧ φ5 <+: φ6 ∧ Rl K C F6 φ6 (upd G p (.lst va6)) s6 (wipe σ3 vs1) Hj ∧ ShA K F6 va6 acc6 ∧ va6.length + (ds1.length - j) ≤ lim ∧
            OutE K C W F6 φ6 G σ Q (cEnd s vs ((cLoop tg1 (pur true) me vs1 (ds1.drop j) acc6 s6).bind fun acc' s3 => cLoop2 tg mi1 tg1 me vs vs1 (ds.drop (i + 1)) acc' { s3 with env := wipeE s3.env vs })),
            ⟨ds1.length, rfl, Nat.zero_le _, F5, φ5, { s2 with env := wipeE s2.env vs1 }, va, acc, Same.refl F5, List.prefix_refl φ5, R5.wipe vs1, ta.mono ((l3.trans l4).trans l6), by rw [ta.len]; omega, o4⟩, ?_⟩
          rintro j k Hj ⟨rfl, hj, F6, φ6, s6, va6, acc6, m1, m2, R6, t6, hv6, o6⟩
          have L6 : Same F F6 := (((l1.trans l3).trans l4).trans l6).trans m1
          have P6 : φ <+: φ6 := ((l2.trans l5).trans l7).trans m2
          by_cases hlt1 : j < ds1.length
          · have hd1 : ds1[j]? = some ds1[j] := List.getElem?_eq_getElem hlt1
            have dr1 : ds1.drop j = ds1[j] :: ds1.drop (j + 1) := List.drop_eq_getElem_cons hlt1
            rw [dr1] at o6
            refine .inr ⟨((hJ1.mono m1 j F6 Hj (Same.refl F6) R6.sub).2 _ hd1).1, fun Hn => ds1.length - (j + 1) < ds1.length - j ∧ ∃ F7 φ7 s7 va7 acc7, Same F5 F7 ∧ φ5 <+: φ7 ∧ Rl K C F7 φ7 (upd G p (.lst va7)) s7 (wipe σ3 vs1) Hn ∧ ShA K F7 va7 acc7 ∧ va7.length + (ds1.length - (j + 1)) ≤ lim ∧
              OutE K C W F7 φ7 G σ Q (cEnd s vs ((cLoop tg1 (pur true) me vs1 (ds1.drop (j + 1)) acc7 s7).bind fun acc' s3 => cLoop2 tg mi1 tg1 me vs vs1 (ds.drop (i + 1)) acc' { s3 with env := wipeE s3.env vs })), fun H' ⟨w0, w⟩ => ⟨_, w0, rfl, hlt1, w⟩, fun x1 H7 y1 => ?_⟩
            obtain ⟨F7, m3, R7, hx1⟩ := (hJ1.mono m1).item R6 hd1 y1
            have o7 := OutE.later o6 m3 (List.prefix_refl φ6)
            unfold cLoop at o7
            cases et1 : tgSet tg1 ds1[j] s6.env with
            | none => rw [et1] at o7; exact o7.elim
            | some e' =>
              rw [et1] at o7
              dsimp only at o7
              refine hg1 C F7 φ6 (upd G p (.lst va6)) s6 (wipe σ3 vs1) H7 x1 ds1[j] e' _ R7 hx1 et1 fun σ5 R8 ws1 => ?_
              have ew1 : wipe σ5 vs1 = wipe (wipe σ3 vs1) vs1 := ws1 vs1 hix1
              have eww1 : wipe (wipe σ3 vs1) vs1 = wipe σ3 vs1 := wipe_wipe σ3 vs1
              refine ⟨ew1.trans eww1, F7, φ6, upd G p (.lst va6), { s6 with env := e' }, R8, ?_⟩
              intro F8 φ8 H8 m4 m5 R9
              have o8 := OutE.later o7 m4 m5
              rw [if_pos rfl]
              have o9 : OutE K C W F8 φ8 G σ Q (cEnd s vs (((me { s6 with env := e' }).bind fun r s3 => match asD r with
                | some y => cLoop tg1 (pur true) me vs1 (ds1.drop (j + 1)) (acc6 ++ [y]) { s3 with env := wipeE s3.env vs1 }
                | none => .no).bind fun acc' s3 => cLoop2 tg mi1 tg1 me vs vs1 (ds.drop (i + 1)) acc' { s3 with env := wipeE s3.env vs })) := o8
              refine ⟨F8, φ8, upd G p (.lst va6), { s6 with env := e' }, R9, ?_⟩
              cases e2 : me { s6 with env := e' } with
              | no => rw [e2] at o9; exact o9.elim
              | exc c fs s3 => rw [e2] at o9; exact o9.elim
              | ok r s3 =>
                rw [e2] at o9
                intro F9 φ9 H9 v m6 m7 R10 ov
                obtain ⟨F10, m8, R11, ov2⟩ := R10.frz ov
                have o10 := OutE.later (OutE.later o9 m6 m7) m8 (List.prefix_refl φ9)
                have e0 : upd G p (.lst va6) p = some (.lst va6) := upd_same
                have key : ∀ y, asD r = some y → Sh K F10 v y := fun y hy => by
                  cases r with
                  | dat d => cases hy; exact ov2
                  | fr ds => cases hy; exact ov2
                  | hnd n => cases hy
                cases e3 : asD r with
                | none =>
                  have o11 : OutE K C W F10 φ9 G σ Q (cEnd s vs ((match asD r with
                    | some y => cLoop tg1 (pur true) me vs1 (ds1.drop (j + 1)) (acc6 ++ [y]) { s3 with env := wipeE s3.env vs1 }
                    | none => .no : Rs (List D)).bind fun acc' s3 => cLoop2 tg mi1 tg1 me vs vs1 (ds.drop (i + 1)) acc' { s3 with env := wipeE s3.env vs })) := o10
                  rw [e3] at o11; exact o11.elim
                | some y =>
                  have o11 : OutE K C W F10 φ9 G σ Q (cEnd s vs ((match asD r with
                    | some y => cLoop tg1 (pur true) me vs1 (ds1.drop (j + 1)) (acc6 ++ [y]) { s3 with env := wipeE s3.env vs1 }
                    | none => .no : Rs (List D)).bind fun acc' s3 => cLoop2 tg mi1 tg1 me vs vs1 (ds.drop (i + 1)) acc' { s3 with env := wipeE s3.env vs })) := o10
                  rw [e3] at o11
                  refine ⟨va6, R11.gs p _ e0, by omega, ?_⟩
                  have R12 := (Rl.stepG (b := va6 ++ [v]) R11).wipe vs1
                  rw [ew1.trans eww1] at R12
                  exact ⟨by omega, F10, φ9, _, va6 ++ [v], acc6 ++ [y], (((m1.trans m3).trans m4).trans m6).trans m8, ((m2.trans m5).trans m7), R12, (t6.mono (((m3.trans m4).trans m6).trans m8)).app (.one (key y e3)), by rw [List.length_append]; simp; omega, o11⟩
          · have ej : j = ds1.length := by omega
            subst ej
            refine .inl ⟨(hJ1.mono m1 _ F6 Hj (Same.refl F6) R6.sub).1 rfl, ?_⟩
            rw [List.drop_eq_nil_of_le (Nat.le_refl _)] at o6
            have R7 := R6.wipe vs
            rw [wipe_sub σ3 hv, ew, eww] at R7
            exact ⟨by omega, F6, φ6, _, va6, acc6, L6, P6, R7, t6, o6⟩
        · rw [if_neg hlen] at o4; exact o4.elim
  · have e : i = ds.length := by omega
    subst e
    refine .inl ⟨(hJ.mono l1 _ F1 Hi (Same.refl F1) R1.sub).1 rfl, ?_⟩
    rw [List.drop_eq_nil_of_le (Nat.le_refl _)] at o1
    have R2 : Rl K C F1 φ1 (upd G p (.lst va)) { s1 with env := backE s.env s1.env vs } σ Hi := Rl.unwipe h l1 l2 no R1
    obtain ⟨R3, ov⟩ := R2.takeG hGp ta
    exact o1 F1 φ1 Hi (.ref p) (Same.refl F1) (List.prefix_refl φ1) R3 ov
end
section
variable {X : Cx} {C : Kls} {W : WX} {tgx tgx1 elt iter iter1 : Expr} {me : Mo Vl} {mi mi1 : Mo (List D)} {pos : Pos} {tg tg1 : Tg} {g g1 : TG} {scope : Scope} {own : List (Str × Nat)} {vs1 : List Nat}
theorem pts_nilL {X : Cx} {C : Kls} {W : WX} : PTs X [] (lifT X.K C W (pur true)) := ⟨fun pins s σ H Q I ⟨F, φ, G, st, R, o⟩ => pts_nil.run pins s σ H Q I (o F φ H (Same.refl F) (List.prefix_refl φ) R)⟩
theorem comp2V_ok {K : PySem.W.Frag} {F : Hp} {φ : List Addr} {G : Hp} {s : S} {σ : L2.St} {H : Hp} {Q : VK} {vs : List Nat} (hg : TgOk K g tg) (hix : ∀ i ∈ tg.ix, i ∈ vs) (hg1 : TgOk K g1 tg1) (hix1 : ∀ i ∈ tg1.ix, i ∈ vs1) (hv : ∀ i ∈ vs1, i ∈ vs) (h : Rl K C F φ G s σ H) (o : OutE K C W F φ G σ Q (comp2V tg mi tg1 mi1 me vs vs1 s)) :
    tLc2 (lifI K C W mi) g (lifT K C W0 (pur true)) (lifI K C W0 mi1) g1 (lifT K C W0 (pur true)) (lif K C W0 me) vs vs1 σ H Q := by
  refine lifI_bindE (f := mi) (g := fun ds => fun s => if ds.length ≤ lim ∧ noOwnAt s.env vs = true then cEnd s vs (cLoop2 tg mi1 tg1 me vs vs1 ds [] { s with env := wipeE s.env vs }) else .no) h (Q := Q) o fun F' φ' H' J ds s' l1 l2 R1 hJ q => ?_
  split at q
  · rename_i hc
    exact comp2_ok hg hix hg1 hix1 hv R1 hJ hc.1 hc.2 q
  · exact q.elim
theorem me_comp2 (hc : X.calm = true) (hN : X.N.Nodup) (hi : PI X tgx iter (lifI X.K C W mi)) (ok : BlkOk X.N X.env.scope scope own) (hgt : TgOk X.K g tg) (hix : ∀ i ∈ tg.ix, i ∈ own.map (·.2)) (hgt1 : TgOk X.K g1 tg1) (hix1 : ∀ i ∈ tg1.ix, i ∈ vs1) (hv : ∀ i ∈ vs1, i ∈ own.map (·.2))
    (hg : ∀ (s : Shared) (H : Hp) (Ca : Addr) (cl : List (Str × Addr)) (fp : List Addr), PG (X.blk s H scope (compEnvC scope cl Ca X.env) fp) tgx g) (ht : ∀ (s : Shared) (H : Hp) (Ca : Addr) (cl : List (Str × Addr)) (fp : List Addr), PTs (X.blk s H scope (compEnvC scope cl Ca X.env) fp) [] (lifT X.K C W0 (pur true)))
    (hi1 : ∀ (s : Shared) (H : Hp) (Ca : Addr) (cl : List (Str × Addr)) (fp : List Addr), PI (X.blk s H scope (compEnvC scope cl Ca X.env) fp) tgx1 iter1 (lifI X.K C W0 mi1))
    (hg1 : ∀ (s : Shared) (H : Hp) (Ca : Addr) (cl : List (Str × Addr)) (fp : List Addr), PG (X.blk s H scope (compEnvC scope cl Ca X.env) fp) tgx1 g1)
    (he : ∀ (s : Shared) (H : Hp) (Ca : Addr) (cl : List (Str × Addr)) (fp : List Addr), PE (X.blk s H scope (compEnvC scope cl Ca X.env) fp) elt (lif X.K C W0 me)) (hs : ∀ x, foldedSetIterable iter X.env x = pure x) (hs1 : ∀ env x, foldedSetIterable iter1 env x = pure x) :
    PE X (.ListComp elt [⟨tgx, iter, [], 0⟩, ⟨tgx1, iter1, [], 0⟩] scope pos) (lif X.K C W (comp2V tg mi tg1 mi1 me (own.map (·.2)) vs1)) :=
  PEwk (pe_lc2 hc hN hi ok hv hg ht hi1 hg1 ht he hs hs1) fun _ _ _ ⟨_, _, _, _, h, o⟩ => comp2V_ok hgt hix hgt1 hix1 hv h o
theorem ms_asgComp2 {i : Nat} {spos py : Pos} {y : Str} (hc : X.calm = true) (hN : X.N.Nodup) (hy : X.N[i]? = some y) (hyl : X.env.scope.names.lookup y = some .local)
    (hsw : swapsWith (.ListComp elt [⟨tgx, iter, [], 0⟩, ⟨tgx1, iter1, [], 0⟩] scope pos) (some (.Name y py)) spos.line X.env = pure true) (hi : PI X tgx iter (lifI X.K C W mi)) (ok : BlkOk X.N X.env.scope scope own) (hgt : TgOk X.K g tg) (hix : ∀ i ∈ tg.ix, i ∈ own.map (·.2)) (hgt1 : TgOk X.K g1 tg1) (hix1 : ∀ i ∈ tg1.ix, i ∈ vs1) (hv : ∀ i ∈ vs1, i ∈ own.map (·.2))
    (hg : ∀ (s : Shared) (H : Hp) (Ca : Addr) (cl : List (Str × Addr)) (fp : List Addr), PG (X.blk s H scope (compEnvC scope cl Ca X.env) fp) tgx g) (ht : ∀ (s : Shared) (H : Hp) (Ca : Addr) (cl : List (Str × Addr)) (fp : List Addr), PTs (X.blk s H scope (compEnvC scope cl Ca X.env) fp) [] (lifT X.K C W0 (pur true)))
    (hi1 : ∀ (s : Shared) (H : Hp) (Ca : Addr) (cl : List (Str × Addr)) (fp : List Addr), PI (X.blk s H scope (compEnvC scope cl Ca X.env) fp) tgx1 iter1 (lifI X.K C W0 mi1))
    (hg1 : ∀ (s : Shared) (H : Hp) (Ca : Addr) (cl : List (Str × Addr)) (fp : List Addr), PG (X.blk s H scope (compEnvC scope cl Ca X.env) fp) tgx1 g1)
    (he : ∀ (s : Shared) (H : Hp) (Ca : Addr) (cl : List (Str × Addr)) (fp : List Addr), PE (X.blk s H scope (compEnvC scope cl Ca X.env) fp) elt (lif X.K C W0 me)) (hs : ∀ x, foldedSetIterable iter X.env x = pure x) (hs1 : ∀ env x, foldedSetIterable iter1 env x = pure x) :
    PS X (.Assign [.Name y py] (.ListComp elt [⟨tgx, iter, [], 0⟩, ⟨tgx1, iter1, [], 0⟩] scope pos) spos) (lifS X.K C W (asgS i (comp2V tg mi tg1 mi1 me (own.map (·.2)) vs1))) := by
  refine PSwk (ps_setLc2 hc hN hy hyl hsw hi ok hv hg ht hi1 hg1 ht he hs hs1) fun E σ H ⟨F, φ, G, s, R, o⟩ => ?_
  have z : lif X.K C W (comp2V tg mi tg1 mi1 me (own.map (·.2)) vs1) σ H (fun x H1 => gName i x σ H1 E.nx) :=
    lif_bindS (f := comp2V tg mi tg1 mi1 me (own.map (·.2)) vs1) R o fun F' φ' H' v r s' l1 l2 R1 o1 q => q F' φ' H' _ (Same.refl F') (List.prefix_refl φ') (R1.setR o1)
  obtain ⟨F1, φ1, G1, s1, R1, o1⟩ := z
  exact comp2V_ok hgt hix hgt1 hix1 hv R1 o1
end
end Gq

namespace Gq
open PySem PySem.Spec L2

inductive Bo where | add | sub | mul | div | mod | pow deriving DecidableEq
inductive Cm where | eq | ne | lt | le | gt | ge | isin | notin | is | isnot deriving DecidableEq
inductive B1 where | len | int | tuple | list | max | min | sum deriving DecidableEq
inductive Bn where | max | min deriving DecidableEq
inductive Mu where | append | pop | extend deriving DecidableEq
mutual
inductive Co where
  | var (i : Nat) | kon (d : D) | glb (k : Nat) | bin (o : Bo) (a b : Co) | cmp (o : Cm) (a b : Co) | chn (o o' : Cm) (a b c : Co)
  | bls (and : Bool) (es : CoL) | not (a : Co) | neg (a : Co) | ite (t a b : Co) | tup (es : CoL) | lst (es : CoL) | sub (a b : Co) | slc (a : Co) (lo hi : CoL)
  | cal (x : Str) (es : CoL) | bl1 (b : B1) (a : Co) | bln (b : Bn) (es : CoL) | isi (T : Ty) (a : Co) | lrg (a : Co) | mut (u : Mu) (i : Nat) (es : CoL)
  | fld (c : Str) (i : Nat) (f : Str) | mth (c m : Str) (i : Nat) (es : CoL) | mak (c : Str) | com (tg : Tg) (it : CoI) (cond : CoL) (elt : Co) (own : List (Str × Nat)) | han (a : Co) | all (it : CoI) (elt : Co) | co2 (tg : Tg) (it : CoI) (tg1 : Tg) (it1 : CoI) (elt : Co) (own : List (Str × Nat)) (vs1 : List Nat)
inductive CoL where
  | nil | cons (e : Co) (es : CoL)
inductive CoI where
  | seq (a : Co) | rn1 (a : Co) | enu (es : CoL) | zip (es : CoL)
end
mutual
inductive So where
  | asg (i : Nat) (e : Co) | unp (ts : List Nat) (e : Co) | sto (i : Nat) (k e : Co) | sfl (c : Str) (i : Nat) (f : Str) (e : Co) | par (i j : Nat) (es : CoL) | exp (e : Co) | ret (e : Co) | mov (i : Nat) | retN
  | iff (t : Co) (a b : SoL) | lop (tg : Tg) (it : CoI) (body : SoL) | whl (t : Co) (body : SoL) | pas | brk | cnt | nev
inductive SoL where
  | nil | cons (s : So) (ss : SoL)
end
structure Ms where
  con : List (Str × D)
  fnN : List Str
  mtN : List (Str × Str)
  inN : List Str
structure Md extends Ms where
  fns : Str → Fn
  mts : Str → Str → Fn
  ini : Str → Fn
  wn : Nat
def Bo.f : Bo → D → D → Option Vl
  | .add => bAdd | .sub => bSub | .mul => bMul | .div => bDiv | .mod => bMod | .pow => bPow
def Cm.f : Cm → D → D → Option Vl
  | .eq => cEqB false | .ne => cEqB true | .lt => cLt | .le => cLe | .gt => cGt | .ge => cGe | .isin => cIn false | .notin => cIn true | .is => cIs false | .isnot => cIs true
def Cm.p : Cm → Int → Int → Bool
  | .lt => fun i j => decide (i < j) | .le => fun i j => decide (i ≤ j) | .gt => fun i j => decide (j < i) | .ge => fun i j => decide (j ≤ i) | _ => fun _ _ => false
def B1.f : B1 → D → Option Vl
  | .len => gLen | .int => gInt | .tuple => gTup | .list => gLst | .max => gMax | .min => gMin | .sum => gSum
def Bn.f : Bn → List D → Option Vl
  | .max => gMaxN | .min => gMinN
def Mu.f : Mu → List D → List D → Option (List D × D)
  | .append => fAppend | .pop => fPop | .extend => fExtend
def late : Co → Option Nat
  | .var i => some i
  | _ => none
mutual
def den (md : Md) : Co → Mo Vl
  | .var i => eVar i
  | .kon d => pur (.dat d)
  | .glb k => match md.con[k]? with
    | some p => pur (.dat p.2)
    | none => fun _ => .no
  | .bin o a b => op2 (late a) (den md a) (late b) (den md b) o.f
  | .cmp o a b => op2 (late a) (den md a) (late b) (den md b) o.f
  | .chn o o' a b c => chnV (late a) (den md a) (late b) (den md b) (late c) (den md c) o.p o'.p
  | .bls k es => denB md k es
  | .not a => notV (den md a)
  | .neg a => negV (den md a)
  | .ite t a b => iteV (denT md t) (den md a) (den md b)
  | .tup es => tupV (evalL (denL md es))
  | .lst es => lstV (evalL (denL md es))
  | .sub a b => op2 (late a) (den md a) (late b) (den md b) bIx
  | .slc a lo hi => slV (late a) (den md a) (denL md lo).head? (denL md hi).head?
  | .cal x es => callV (md.fns x) (evalL (denL md es))
  | .bl1 b a => op1 (late a) (den md a) b.f
  | .bln b es => bltN b.f (evalL (denL md es))
  | .isi T a => isiV T (late a) (den md a)
  | .lrg a => lrgV (den md a)
  | .mut u i es => mutV i (evalL (denL md es)) u.f
  | .fld c i f => eFld c i f
  | .mth c m i es => mthV c m i (md.mts c m) (evalL (denL md es))
  | .mak c => makV c (md.ini c) (evalL [])
  | .com tg it cond elt own => compV tg (denI md it) (denC md cond) (den md elt) (own.map (·.2))
  | .han a => han (den md a)
  | .all it elt => allV (denI md it) (den md elt)
  | .co2 tg it tg1 it1 elt own vs1 => comp2V tg (denI md it) tg1 (denI md it1) (den md elt) (own.map (·.2)) vs1
def denT (md : Md) : Co → Mo Bool
  | .bls k es => denTB md k es
  | .not a => notT (denT md a)
  | .cmp o a b => truB (op2 (late a) (den md a) (late b) (den md b) o.f)
  | .chn o o' a b c => truB (chnV (late a) (den md a) (late b) (den md b) (late c) (den md c) o.p o'.p)
  | .ite _ _ _ => fun _ => .no
  | .var i => tru (eVar i)
  | .kon d => tru (pur (.dat d))
  | .sub a b => tru (op2 (late a) (den md a) (late b) (den md b) bIx)
  | .cal x es => tru (callV (md.fns x) (evalL (denL md es)))
  | .isi T a => tru (isiV T (late a) (den md a))
  | .all it elt => tru (allV (denI md it) (den md elt))
  | _ => fun _ => .no
def denB (md : Md) : Bool → CoL → Mo Vl
  | _, .nil => fun _ => .no
  | _, .cons e .nil => den md e
  | k, .cons e es => if k then andV (den md e) (denB md k es) else orV (den md e) (denB md k es)
def denTB (md : Md) : Bool → CoL → Mo Bool
  | _, .nil => fun _ => .no
  | _, .cons e .nil => denT md e
  | k, .cons e es => if k then andT (denT md e) (denTB md k es) else orT (denT md e) (denTB md k es)
def denL (md : Md) : CoL → List (Mo Vl)
  | .nil => []
  | .cons e es => den md e :: denL md es
def denI (md : Md) : CoI → Mo (List D)
  | .seq a => itSeq (den md a)
  | .rn1 a => itRng1 (den md a)
  | .enu es => itEnu (evalL (denL md es))
  | .zip es => itZip (evalL (denL md es))
def denC (md : Md) : CoL → Mo Bool
  | .nil => pur true
  | .cons e _ => denT md e
end
mutual
def denS (md : Md) : So → Mo Fl
  | .asg i e => asgS i (den md e)
  | .unp ts e => unpS ts (den md e)
  | .sto i k e => stoS i (den md k) (den md e)
  | .sfl c i f e => sfldS c i f (den md e)
  | .par i j es => parS i j (evalL (denL md es))
  | .exp e => exprS (den md e)
  | .ret e => retS (den md e)
  | .mov i => retS (eMove i)
  | .retN => pur (.ret (.dat .none))
  | .iff t a b => ifS (denT md t) (denSs md a) (denSs md b)
  | .lop tg it body => forS tg (denI md it) (denSs md body)
  | .whl t body => whlS md.wn (denT md t) (denSs md body)
  | .pas => pur .nx
  | .brk => pur .brk
  | .cnt => pur .ct
  | .nev => fun _ => .no
def denSs (md : Md) : SoL → Mo Fl
  | .nil => pur .nx
  | .cons s ss => seqS (denS md s) (denSs md ss)
end
structure Df where
  np : Nat
  ns : Nat
  body : SoL
def argSl : Vl → Sl
  | .dat d => .dat d
  | .fr ds => .own ds
  | .hnd n => .hnd n
def runD (md : Md) (d : Df) : Fn := fun args m =>
  if args.length = d.np then
    match denSs md d.body ⟨args.map argSl ++ List.replicate (d.ns - d.np) .un, m⟩ with
    | .ok .nx s => .ok (.dat .none) ⟨[], s.mem⟩
    | .ok (.ret r) s => .ok r ⟨[], s.mem⟩
    | .ok _ _ => .no
    | .exc c fs s => .exc c fs ⟨[], s.mem⟩
    | .no => .no
  else .no
end Gq

namespace Gq
open PySem PySem.Spec L2

def vName : Expr → Option Str | .Name x _ => some x | _ => none
def vBin : Expr → Option (Expr × Operator × Expr) | .BinOp a o b _ => some (a, o, b) | _ => none
def vUn : Expr → Option (UnaryOp × Expr) | .UnaryOp o a _ => some (o, a) | _ => none
def vCmp : Expr → Option (Expr × List CmpOp × List Expr) | .Compare a o b _ => some (a, o, b) | _ => none
def vBls : Expr → Option (BoolOp × List Expr) | .BoolOp o es _ => some (o, es) | _ => none
def vIte : Expr → Option (Expr × Expr × Expr) | .IfExp t a b _ => some (t, a, b) | _ => none
def vTup : Expr → Option (List Expr) | .Tuple es _ _ => some es | _ => none
def vLst : Expr → Option (List Expr) | .List es _ => some es | _ => none
def vSub : Expr → Option (Expr × Expr) | .Subscript a b _ => some (a, b) | _ => none
def vSlc : Expr → Option (Option Expr × Option Expr × Option Expr) | .Slice l h s _ => some (l, h, s) | _ => none
def vCal : Expr → Option (Expr × List Expr × List Keyword) | .Call f es ks _ => some (f, es, ks) | _ => none
def vAtt : Expr → Option (Expr × Str) | .Attribute o f _ => some (o, f) | _ => none
def vCon : Expr → Option Const | .Constant c _ _ => some c | _ => none
def vCom : Expr → Option (Expr × List Comprehension × Scope) | .ListComp e gs sc _ => some (e, gs, sc) | _ => none
section
variable {e : Expr}
theorem vName_ok {x} (h : vName e = some x) : ∃ p, e = .Name x p := by cases e <;> cases h; exact ⟨_, rfl⟩
theorem vBin_ok {x} (h : vBin e = some x) : ∃ p, e = .BinOp x.1 x.2.1 x.2.2 p := by cases e <;> cases h; exact ⟨_, rfl⟩
theorem vUn_ok {x} (h : vUn e = some x) : ∃ p, e = .UnaryOp x.1 x.2 p := by cases e <;> cases h; exact ⟨_, rfl⟩
theorem vCmp_ok {x} (h : vCmp e = some x) : ∃ p, e = .Compare x.1 x.2.1 x.2.2 p := by cases e <;> cases h; exact ⟨_, rfl⟩
theorem vBls_ok {x} (h : vBls e = some x) : ∃ p, e = .BoolOp x.1 x.2 p := by cases e <;> cases h; exact ⟨_, rfl⟩
theorem vIte_ok {x} (h : vIte e = some x) : ∃ p, e = .IfExp x.1 x.2.1 x.2.2 p := by cases e <;> cases h; exact ⟨_, rfl⟩
theorem vTup_ok {x} (h : vTup e = some x) : ∃ k p, e = .Tuple x k p := by cases e <;> cases h; exact ⟨_, _, rfl⟩
theorem vLst_ok {x} (h : vLst e = some x) : ∃ p, e = .List x p := by cases e <;> cases h; exact ⟨_, rfl⟩
theorem vSub_ok {x} (h : vSub e = some x) : ∃ p, e = .Subscript x.1 x.2 p := by cases e <;> cases h; exact ⟨_, rfl⟩
theorem vSlc_ok {x} (h : vSlc e = some x) : ∃ p, e = .Slice x.1 x.2.1 x.2.2 p := by cases e <;> cases h; exact ⟨_, rfl⟩
theorem vCal_ok {x} (h : vCal e = some x) : ∃ p, e = .Call x.1 x.2.1 x.2.2 p := by cases e <;> cases h; exact ⟨_, rfl⟩
theorem vAtt_ok {x} (h : vAtt e = some x) : ∃ p, e = .Attribute x.1 x.2 p := by cases e <;> cases h; exact ⟨_, rfl⟩
theorem vCon_ok {x} (h : vCon e = some x) : ∃ k p, e = .Constant x k p := by cases e <;> cases h; exact ⟨_, _, rfl⟩
theorem vCom_ok {x} (h : vCom e = some x) : ∃ p, e = .ListComp x.1 x.2.1 x.2.2 p := by cases e <;> cases h; exact ⟨_, rfl⟩
end

structure Ctx where
  N : List Str
  sc : Scope
  fnb : Str → Bool
  gen : Option Str
def visB (sc : Scope) (x : Str) : Bool := match sc.names.lookup x with
  | some .local => true | some .cell => true | some .free => true | _ => false
def locB (sc : Scope) (x : Str) : Bool := match sc.names.lookup x with
  | some .local => true | some .cell => true | _ => false
def glB (sc : Scope) (x : Str) : Bool := match sc.names.lookup x with
  | some .globalImplicit => true | _ => false
def isLoc (sc : Scope) (x : Str) : Bool := match sc.names.lookup x with
  | some .local => true | _ => false
def odd (x : Str) : Bool := x == ("__debug__" : Str) || x == ("__classdict__" : Str) || x == ("__name__" : Str)
def Bo.op : Bo → Operator
  | .add => .Add | .sub => .Sub | .mul => .Mult | .div => .FloorDiv | .mod => .Mod | .pow => .Pow
def Cm.op : Cm → CmpOp
  | .eq => .Eq | .ne => .NotEq | .lt => .Lt | .le => .LtE | .gt => .Gt | .ge => .GtE | .isin => .In | .notin => .NotIn | .is => .Is | .isnot => .IsNot
def Cm.chn : Cm → Bool
  | .lt => true | .le => true | .gt => true | .ge => true | _ => false
def B1.nm : B1 → Str
  | .len => "len" | .int => "int" | .tuple => "tuple" | .list => "list" | .max => "max" | .min => "min" | .sum => "sum"
def Bn.nm : Bn → Str
  | .max => "max" | .min => "min"
def Ty.st : Ty → Str
  | .int => "int" | .bool => "bool" | .str => "str" | .tuple => "tuple" | .list => "list"
def Mu.nm : Mu → Str
  | .append => "append" | .pop => "pop" | .extend => "extend"
def bltNames : List Str := ["len", "int", "tuple", "list", "max", "min", "sum", "isinstance", "bool", "str", "range", "zip", "enumerate", "sorted", "set", "dict", "all", "any"]
def conB : D → Const → Bool
  | .none, .none => true
  | .bool b, .bool c => b == c
  | .int i, .int j => i == j
  | .str x, .str y => x == y && PyData.strOk x
  | _, _ => false
def noSet : Expr → Bool
  | .Set _ _ _ => false
  | _ => true
def notLC : Expr → Bool
  | .ListComp _ _ _ _ => false | .SetComp _ _ _ _ => false | .DictComp _ _ _ _ _ => false
  | _ => true
def ixOk : Expr → Bool
  | .Slice _ _ _ _ => false
  | _ => true
def optB {α : Type} (o : Option α) (f : α → Bool) : Bool := match o with
  | some a => f a
  | none => false
theorem optB_ok {α : Type} {o : Option α} {f : α → Bool} (h : optB o f = true) : ∃ a, o = some a ∧ f a = true := by
  cases o with
  | none => cases h
  | some a => exact ⟨a, rfl, h⟩
def nmB (ctx : Ctx) (i : Nat) (e : Expr) : Bool := optB (vName e) fun x => decide (ctx.N[i]? = some x) && locB ctx.sc x && (ctx.fnb x || isLoc ctx.sc x)
def varB (ctx : Ctx) (i : Nat) (e : Expr) : Bool := optB (vName e) fun x => decide (ctx.N[i]? = some x) && visB ctx.sc x && !odd x
def isNm (e : Expr) (x : Str) : Bool := vName e == some x
def tgB (ctx : Ctx) : Tg → Expr → Bool
  | .nm i, e => nmB ctx i e
  | .tp ts, e => optB (vTup e) fun es => decide (es.length = ts.length) && (ts.zip es).all fun p => nmB ctx p.1 p.2
def l1 {α : Type} : List α → Option α | [a] => some a | _ => none
def l2 {α : Type} : List α → Option (α × α) | [a, b] => some (a, b) | _ => none
theorem l1_ok {α : Type} {l : List α} {a : α} (h : l1 l = some a) : l = [a] := by
  match l, h with
  | [b], h => cases h; rfl
theorem l2_ok {α : Type} {l : List α} {a : α × α} (h : l2 l = some a) : l = [a.1, a.2] := by
  match l, h with
  | [b, c], h => cases h; rfl
def vMth : Expr → Option (Expr × Str × Pos × List Expr × Pos)
  | .Call (.Attribute o nm ap) vs [] cp => some (o, nm, ap, vs, cp)
  | _ => none
theorem vMth_ok {e : Expr} {x} (h : vMth e = some x) : e = .Call (.Attribute x.1 x.2.1 x.2.2.1) x.2.2.2.1 [] x.2.2.2.2 := by
  unfold vMth at h
  split at h
  · cases h; rfl
  · cases h
def vCl (e : Expr) : Option (Expr × List Expr) := match e with
  | .Call f es [] _ => some (f, es)
  | _ => none
theorem vCl_ok {e : Expr} {x} (h : vCl e = some x) : ∃ p, e = .Call x.1 x.2 [] p := by
  unfold vCl at h
  split at h
  · cases h; exact ⟨_, rfl⟩
  · cases h
def vC1 (e : Expr) : Option (Expr × Expr × Expr × List Expr × Scope) := match e with
  | .ListComp elt [⟨t, i, ifs, 0⟩] sc _ => some (elt, t, i, ifs, sc)
  | _ => none
theorem vC1_ok {e : Expr} {x} (h : vC1 e = some x) : ∃ p, e = .ListComp x.1 [⟨x.2.1, x.2.2.1, x.2.2.2.1, 0⟩] x.2.2.2.2 p := by
  unfold vC1 at h
  split at h
  · cases h; exact ⟨_, rfl⟩
  · cases h
def vC2 (e : Expr) : Option (Expr × Expr × Expr × Expr × Expr × Scope) := match e with
  | .ListComp elt [⟨t, i, [], 0⟩, ⟨t1, i1, [], 0⟩] sc _ => some (elt, t, i, t1, i1, sc)
  | _ => none
theorem vC2_ok {e : Expr} {x} (h : vC2 e = some x) : ∃ p, e = .ListComp x.1 [⟨x.2.1, x.2.2.1, [], 0⟩, ⟨x.2.2.2.1, x.2.2.2.2.1, [], 0⟩] x.2.2.2.2.2 p := by
  unfold vC2 at h
  split at h
  · cases h; exact ⟨_, rfl⟩
  · cases h
def vSl (e : Expr) : Option (Expr × Option Expr × Option Expr) := match e with
  | .Subscript a (.Slice l h none _) _ => some (a, l, h)
  | _ => none
theorem vSl_ok {e : Expr} {x} (h : vSl e = some x) : ∃ p q, e = .Subscript x.1 (.Slice x.2.1 x.2.2 none p) q := by
  unfold vSl at h
  split at h
  · cases h; exact ⟨_, _, rfl⟩
  · cases h
def vGn (e : Expr) : Option (Expr × Expr × Str × Expr × Scope) := match e with
  | .Call f [.GeneratorExp elt [⟨.Name x _, i, [], 0⟩] sc _] [] _ => some (f, elt, x, i, sc)
  | _ => none
theorem vGn_ok {e : Expr} {x} (h : vGn e = some x) : ∃ p q r, e = .Call x.1 [.GeneratorExp x.2.1 [⟨.Name x.2.2.1 p, x.2.2.2.1, [], 0⟩] x.2.2.2.2 q] [] r := by
  unfold vGn at h
  split at h
  · cases h; exact ⟨_, _, _, rfl⟩
  · cases h
def gnS (sc : Scope) (x : Str) : Bool := sc.kind == .function && !sc.isCoroutine && sc.names.all (fun y => !(y.2 == .cell) && !(y.2 == .free)) && sc.names.lookup (".0" : Str) == some .local && sc.names.lookup x == some .local
theorem gnS_ok {sc : Scope} {x : Str} (h : gnS sc x = true) : GenS0 sc x := by
  unfold gnS at h
  simp only [Bool.and_eq_true, beq_iff_eq, Bool.not_eq_true', List.all_eq_true] at h
  obtain ⟨⟨⟨⟨h1, h2⟩, h3⟩, h4⟩, h5⟩ := h
  refine ⟨h1, h2, fun y hy z => ?_, fun y hy z => ?_, h4, h5⟩
  · have := (h3 y hy).1
    rw [z] at this
    exact absurd this (by decide)
  · have := (h3 y hy).2
    rw [z] at this
    exact absurd this (by decide)
def noGF : Expr → Bool
  | .Set _ _ _ => false | .List _ _ => false
  | _ => true
theorem gfold_of {e : Expr} {env : Env} (h : noGF e = true) : ∀ x, genFold e env x = pure x := by
  intro x
  cases e <;> first | rfl | cases h
def ctxG (x : Str) (sc : Scope) : Ctx := ⟨[x], sc, fun _ => true, none⟩
def Ctx.blk (ctx : Ctx) (scope : Scope) : Ctx := ⟨ctx.N, relS scope ctx.sc, fun x => scope.names.lookup x == some .cell, none⟩
mutual
def ck (md : Ms) (fl : List (Str × Str)) (ctx : Ctx) : Co → Expr → Bool
  | .var i, e => varB ctx i e
  | .kon d, e => optB (vCon e) fun c => conB d c
  | .glb k, e => optB (vName e) fun x => optB md.con[k]? (fun p => p.1 == x) && glB ctx.sc x && !odd x
  | .bin o a b, e => optB (vBin e) fun v => (v.2.1 == o.op) && ck md fl ctx a v.1 && ck md fl ctx b v.2.2
  | .cmp o a b, e => optB (vCmp e) fun v => optB (l1 v.2.1) fun op => optB (l1 v.2.2) fun r => (op == o.op) && noSet r && ck md fl ctx a v.1 && ck md fl ctx b r
  | .chn o o' a b c, e => optB (vCmp e) fun v => optB (l2 v.2.1) fun op => optB (l2 v.2.2) fun r => (op.1 == o.op) && (op.2 == o'.op) && o.chn && o'.chn && noSet r.2 && ck md fl ctx a v.1 && ck md fl ctx b r.1 && ck md fl ctx c r.2
  | .bls k es, e => optB (vBls e) fun v => (v.1 == (if k then BoolOp.And else BoolOp.Or)) && ckL md fl ctx es v.2
  | .not a, e => optB (vUn e) fun v => (v.1 == .Not) && ck md fl ctx a v.2
  | .neg a, e => optB (vUn e) fun v => (v.1 == .USub) && ck md fl ctx a v.2
  | .ite t a b, e => optB (vIte e) fun v => ck md fl ctx t v.1 && ck md fl ctx a v.2.1 && ck md fl ctx b v.2.2
  | .tup es, e => optB (vTup e) fun v => ckL md fl ctx es v
  | .lst es, e => optB (vLst e) fun v => ckL md fl ctx es v
  | .sub a b, e => optB (vSub e) fun v => ixOk v.2 && ck md fl ctx a v.1 && ck md fl ctx b v.2
  | .slc a lo hi, e => optB (vSl e) fun v => ck md fl ctx a v.1 && ckL md fl ctx lo v.2.1.toList && ckL md fl ctx hi v.2.2.toList
  | .cal x es, e => optB (vCl e) fun v => isNm v.1 x && glB ctx.sc x && !odd x && !v.2.isEmpty && ckL md fl ctx es v.2 && md.fnN.contains x
  | .bl1 b a, e => optB (vCl e) fun v => optB (l1 v.2) fun w => isNm v.1 b.nm && glB ctx.sc b.nm && ck md fl ctx a w
  | .bln b es, e => optB (vCl e) fun v => isNm v.1 b.nm && glB ctx.sc b.nm && !v.2.isEmpty && ckL md fl ctx es v.2
  | .isi T a, e => optB (vCl e) fun v => optB (l2 v.2) fun w => isNm v.1 "isinstance" && glB ctx.sc "isinstance" && isNm w.2 T.st && glB ctx.sc T.st && ck md fl ctx a w.1
  | .lrg a, e => optB (vCl e) fun v => optB (l1 v.2) fun w => isNm v.1 "list" && glB ctx.sc "list" && optB (vCl w) fun u => optB (l1 u.2) fun z => isNm u.1 "range" && glB ctx.sc "range" && ck md fl ctx a z
  | .mut u i es, e => optB (vMth e) fun v => (v.2.1 == u.nm) && (v.2.2.1.endLine == v.2.2.2.2.line) && !v.2.2.2.1.isEmpty && decide (v.2.2.2.1.length < 20) && ckL md fl ctx es v.2.2.2.1 && varB ctx i v.1
  | .fld c i f, e => optB (vAtt e) fun v => (v.2 == f) && fl.contains (c, f) && varB ctx i v.1
  | .mth c m i es, e => optB (vMth e) fun v => (v.2.1 == m) && ckL md fl ctx es v.2.2.2.1 && varB ctx i v.1 && (v.2.2.1.endLine == v.2.2.2.2.line) && decide (v.2.2.2.1.length < 20) && md.mtN.contains (c, m)
  | .mak c, e => optB (vCl e) fun v => v.2.isEmpty && isNm v.1 c && glB ctx.sc c && !odd c && md.inN.contains c
  | .com tg it cond elt own, e => optB (vC1 e) fun v => blkC ctx.N ctx.sc v.2.2.2.2 own && (tg.ix.all fun j => (own.map (·.2)).contains j) && tgB (ctx.blk v.2.2.2.2) tg v.2.1 && noSet v.2.2.1 && ckI md fl ctx it v.2.1 v.2.2.1 && ckC md fl (ctx.blk v.2.2.2.2) cond v.2.2.2.1 && ck md fl (ctx.blk v.2.2.2.2) elt v.1
  | .han a, e => ck md fl ctx a e
  | .all it elt, e => optB (vGn e) fun v => isNm v.1 "all" && glB ctx.sc "all" && ctx.gen.isSome && gnS v.2.2.2.2 v.2.2.1 && noGF v.2.2.2.1 && ckI md fl ctx it (.Name v.2.2.1 ⟨0, 0, 0, 0⟩) v.2.2.2.1 && ck md fl (ctxG v.2.2.1 v.2.2.2.2) elt v.2.1
  | .co2 tg it tg1 it1 elt own vs1, e => optB (vC2 e) fun v => blkC ctx.N ctx.sc v.2.2.2.2.2 own && (tg.ix.all fun j => (own.map (·.2)).contains j) && (tg1.ix.all fun j => vs1.contains j) && (vs1.all fun j => (own.map (·.2)).contains j) && tgB (ctx.blk v.2.2.2.2.2) tg v.2.1 && tgB (ctx.blk v.2.2.2.2.2) tg1 v.2.2.2.1 && noSet v.2.2.1 && noSet v.2.2.2.2.1 && ckI md fl ctx it v.2.1 v.2.2.1 && ckI md fl (ctx.blk v.2.2.2.2.2) it1 v.2.2.2.1 v.2.2.2.2.1 && ck md fl (ctx.blk v.2.2.2.2.2) elt v.1
def ckL (md : Ms) (fl : List (Str × Str)) (ctx : Ctx) : CoL → List Expr → Bool
  | .nil, es => es.isEmpty
  | .cons c cs, e :: es => ck md fl ctx c e && ckL md fl ctx cs es
  | .cons _ _, [] => false
def ckI (md : Ms) (fl : List (Str × Str)) (ctx : Ctx) : CoI → Expr → Expr → Bool
  | .seq a, _, e => ck md fl ctx a e
  | .enu es, tg, e => optB (vTup tg) fun _ => optB (vCl e) fun v => optB (l1 v.2) fun _ => isNm v.1 "enumerate" && glB ctx.sc "enumerate" && ckL md fl ctx es v.2
  | .zip es, tg, e => optB (vTup tg) fun _ => optB (vCl e) fun v => optB (l2 v.2) fun _ => isNm v.1 "zip" && glB ctx.sc "zip" && ckL md fl ctx es v.2
  | .rn1 a, _, e => optB (vCl e) fun v => optB (l1 v.2) fun w => isNm v.1 "range" && glB ctx.sc "range" && ck md fl ctx a w
def ckC (md : Ms) (fl : List (Str × Str)) (ctx : Ctx) : CoL → List Expr → Bool
  | .nil, es => es.isEmpty
  | .cons c .nil, [e] => ck md fl ctx c e
  | _, _ => false
end
end Gq

namespace Gq
open PySem PySem.Spec L2

abbrev WE' (E : XK) : WX := fun cls d _ H => E cls d H
structure MdOk (X : Cx) (C : Kls) (md : Md) (fl : List (Str × Str)) (n : Nat) : Prop where
  con : ∀ (k : Nat) (p : Str × D), md.con[k]? = some p → ∃ v u, X.mg p.1 = some u ∧ RelV v u ∧ ∀ F, Sh X.K F v p.2
  blt : ∀ x ∈ bltNames, X.mg x = none
  fns : ∀ x ∈ md.fnN, FnAt X C n x (md.fns x)
  mts : ∀ p ∈ md.mtN, MtAt X C n p.1 p.2 (md.mts p.1 p.2)
  ini : ∀ c ∈ md.inN, MkAt X C n c c (md.ini c)
  fld : ∀ p ∈ fl, ∀ k, C p.1 = some k → Cls X.K k ∧ NoAttr X.K k p.2
structure Xo (X : Cx) (C : Kls) (md : Md) (fl : List (Str × Str)) (n : Nat) (ctx : Ctx) (E : XK) : Prop where
  mod : MdOk X C md fl n
  calm : X.calm = true
  nd : X.N.Nodup
  N : X.N = ctx.N
  sc : X.env.scope = ctx.sc
  fn : X.fn = ctx.fnb
  room : Room (n + 1) X.A
  tk : Takes X (WE' E)
  gn : ∀ y, ctx.gen = some y → tbK y = true ∧ Room (n + 4) X.A ∧ ∃ c P, X.env.code = .ref c ∧ GxR.TabB X.base X.mg c P ∧ C y = some P
theorem MdOk.blk {X : Cx} {C : Kls} {md : Md} {fl : List (Str × Str)} {n : Nat} (h : MdOk X C md fl n) (s : Shared) (H : Hp) (scope : Scope) (cenv : Env) (fp : List Addr) : MdOk (X.blk s H scope cenv fp) C md fl n :=
  ⟨h.con, h.blt, fun x hx => ⟨(h.fns x hx).ex⟩, fun p hp => ⟨(h.mts p hp).ex⟩, fun c hc => ⟨(h.ini c hc).ex⟩, h.fld⟩
theorem MdOk.tr {X Y : Cx} {C : Kls} {md : Md} {fl : List (Str × Str)} {n : Nat} (h : MdOk X C md fl n) (h1 : Y.prog = X.prog) (h2 : Y.w = X.w) (h3 : Y.K = X.K) (h4 : Y.mg = X.mg) (h5 : Y.base = X.base) : MdOk Y C md fl n := by
  refine ⟨?_, ?_, fun x hx => ⟨?_⟩, fun p hp => ⟨?_⟩, fun c hc => ⟨?_⟩, ?_⟩
  · rw [h4, h3]; exact h.con
  · rw [h4]; exact h.blt
  · rw [h1, h2, h3, h4, h5]; exact (h.fns x hx).ex
  · rw [h1, h2, h3, h4, h5]; exact (h.mts p hp).ex
  · rw [h1, h2, h3, h4, h5]; exact (h.ini c hc).ex
  · rw [h3]; exact h.fld
theorem MdOk.tr0 {X : Cx} {B : Around} {s2 : Shared} {H2 : Hp} {fp : List Addr} {x : Str} {cenv : Env} {pn : List (Addr × Obj)} {C : Kls} {md : Md} {fl : List (Str × Str)} {n : Nat} (h : MdOk X C md fl n) : MdOk (gX X B s2 H2 fp x cenv pn) C md fl n := h.tr rfl rfl rfl rfl rfl
section
variable {X : Cx} {C : Kls} {md : Md} {fl : List (Str × Str)} {n : Nat} {ctx : Ctx} {E : XK}
theorem Xo.blk (h : Xo X C md fl n ctx E) (s : Shared) (H : Hp) (scope : Scope) (Ca : Addr) (cl : List (Str × Addr)) (fp : List Addr) :
    Xo (X.blk s H scope (compEnvC scope cl Ca X.env) fp) C md fl n (ctx.blk scope) (fun _ _ _ => False) where
  mod := h.mod.blk s H scope _ fp
  calm := h.calm
  nd := h.nd
  N := h.N
  sc := by
    show relS scope X.env.scope = relS scope ctx.sc
    rw [h.sc]
  fn := rfl
  room := h.room
  tk := takes0
  gn := fun y z => by cases z
theorem Xo.gl (h : Xo X C md fl n ctx E) {x : Str} (g : glB ctx.sc x = true) : Gl X x := by
  unfold Gl Env.kindOf
  rw [h.sc]
  unfold glB at g
  split at g
  · assumption
  · cases g
theorem Xo.vis (h : Xo X C md fl n ctx E) {x : Str} (g : visB ctx.sc x = true) : Vis X.env.scope x := by
  unfold Vis
  rw [h.sc]
  unfold visB at g
  split at g
  · rename_i q; exact .inl q
  · rename_i q; exact .inr (.inl q)
  · rename_i q; exact .inr (.inr q)
  · cases g
theorem Xo.loc (h : Xo X C md fl n ctx E) {x : Str} (g : locB ctx.sc x = true) : L2.Loc X.env.scope x := by
  unfold L2.Loc
  rw [h.sc]
  unfold locB at g
  split at g
  · rename_i q; exact .inl q
  · rename_i q; exact .inr q
  · cases g
theorem Xo.isLoc (h : Xo X C md fl n ctx E) {x : Str} (g : isLoc ctx.sc x = true) : X.env.scope.names.lookup x = some .local := by
  rw [h.sc]
  unfold Gq.isLoc at g
  split at g
  · assumption
  · cases g
theorem odd_ok {x : Str} (h : (!odd x) = true) : (x == ("__debug__" : Str)) = false ∧ (x == ("__classdict__" : Str)) = false ∧ x ≠ "__name__" := by
  unfold odd at h
  simp only [Bool.not_eq_true', Bool.or_eq_false_iff] at h
  exact ⟨h.1.1, h.1.2, fun z => by rw [z] at h; simp at h⟩
theorem Xo.var (h : Xo X C md fl n ctx E) {x : Str} {i : Nat} {p : Pos} (hN : ctx.N[i]? = some x) (g : visB ctx.sc x = true) (o : (!odd x) = true) : PE X (.Name x p) (tVar i) :=
  pe_var (by rw [h.N]; exact hN) (h.vis g) (odd_ok o).1 (odd_ok o).2.1
end
theorem ck_star (md : Ms) (fl : List (Str × Str)) (ctx : Ctx) (x : Expr) (p : Pos) : ∀ c : Co, ck md fl ctx c (.Starred x p) = false
  | .han a => ck_star md fl ctx x p a
  | .var _ | .kon _ | .glb _ | .bin _ _ _ | .cmp _ _ _ | .chn _ _ _ _ _ | .bls _ _ | .not _ | .neg _ | .ite _ _ _ | .tup _ | .lst _ | .sub _ _ | .slc _ _ _ | .cal _ _ | .bl1 _ _ | .bln _ _ | .isi _ _ | .lrg _ | .mut _ _ _ | .fld _ _ _ | .mth _ _ _ _ | .mak _ | .com _ _ _ _ _ | .all _ _ | .co2 _ _ _ _ _ _ _ => rfl
theorem star_of {md : Ms} {fl : List (Str × Str)} {ctx : Ctx} {c : Co} {e : Expr} {es : List Expr} {env : Env} (h : ck md fl ctx c e = true) : starEach (e :: es) env = (false, eval e env) :: starEach es env := by
  cases e <;> first | rfl | (rw [ck_star] at h; cases h)
theorem stars_of {md : Ms} {fl : List (Str × Str)} {ctx : Ctx} {env : Env} : ∀ {cs : CoL} {es : List Expr}, ckL md fl ctx cs es = true → ∀ p ∈ starEach es env, p.1 = false
  | .nil, [], _, p, hp => by cases hp
  | .cons c cs, e :: es, h, p, hp => by
    have h : (ck md fl ctx c e && ckL md fl ctx cs es) = true := h
    rw [Bool.and_eq_true] at h
    rw [star_of h.1] at hp
    rcases List.mem_cons.mp hp with rfl | hp
    · rfl
    · exact stars_of (cs := cs) h.2 p hp
  | .nil, _ :: _, h, _, _ => by cases h
  | .cons _ _, [], h, _, _ => by cases h
theorem plain_of {md : Ms} {fl : List (Str × Str)} {ctx : Ctx} {env : Env} {cs : CoL} {es : List Expr} {pos : Pos} (h : ckL md fl ctx cs es = true) : (backTo pos (starEach es env)).any (·.1) = false := by
  rw [List.any_eq_false]
  intro p hp
  unfold backTo at hp
  rw [List.mem_map] at hp
  obtain ⟨q, hq, rfl⟩ := hp
  have := stars_of h q hq
  show ¬ (q.1 = true)
  rw [this]
  exact Bool.false_ne_true
theorem few_of {md : Ms} {fl : List (Str × Str)} {ctx : Ctx} {env : Env} {cs : CoL} {es : List Expr} {pos : Pos} (h : ckL md fl ctx cs es = true) (hl : es.length < 20) :
    ((backTo pos (starEach es env)).all (fun x => !x.1) && (backToKw pos (keywordEach [] env)).all (fun x => x.1.isSome) && decide (es.length + ([] : List Keyword).length + (if ([] : List Keyword).isEmpty then 0 else 1) < 30)) = true := by
  rw [Bool.and_eq_true, Bool.and_eq_true]
  refine ⟨⟨?_, rfl⟩, decide_eq_true ?_⟩
  · rw [List.all_eq_true]
    intro p hp
    have := plain_of (env := env) (pos := pos) h
    rw [List.any_eq_false] at this
    have := this p hp
    simpa using this
  · show es.length + 0 + 0 < 30
    omega
theorem mark_of {op : CmpOp} {e : Expr} (h : noSet e = true) : behindInMarks op e = false := by
  cases e <;> first | rfl | cases h
theorem fold_of {e : Expr} {env : Env} (h : noSet e = true) : ∀ x, foldedSetIterable e env x = pure x := by
  intro x
  cases e <;> first | rfl | cases h
theorem plainIx_of {e : Expr} (h : ixOk e = true) : PlainIx e := by
  intro o i
  cases e <;> first | rfl | cases h
theorem meth_ht {x mn : Str} {p ap cp : Pos} {es : List Expr} {env : Env} (hl : (ap.endLine == cp.line) = true) (hf : methodCallForm es.length (backTo cp (starEach es env)) (backToKw cp (keywordEach [] env)) = true) :
    eval (.Call (.Attribute (.Name x p) mn ap) es [] cp) env = (do
      let ov ← eval (.Name x p) env
      standAt ap.atName
      let (f, first) ← holding [ov] (getMethod ov mn (do return (← importBound (.Name x p) env).getD true))
      callWith cp f first (backTo cp (starEach es env)) (backToKw cp (keywordEach [] env))) := by
  show (do
    let ov ← eval (.Name x p) env
    standAt ap.atName
    methodCall (.Name x p) mn ap cp env ov (es.length + 0) (backTo cp (starEach es env)) (backToKw cp (keywordEach [] env))) = _
  unfold methodCall methodCallPos calleeOf
  rw [Nat.add_zero, hf]
  simp only [Bool.not_true, Bool.false_or, hl, if_true, pure_bind]
end Gq

namespace Gq
open PySem PySem.Spec L2

def Bo.r (K : PySem.W.Frag) : Bo → R2
  | .add => rAdd2 K | .sub => rI0 fun i j => .int (i - j) | .mul => rMul2 K | .div => rI CDivN fun i j => .int (i.fdiv j) | .mod => rI (fun _ j => j ≠ 0) fun i j => .int (i.fmod j) | .pow => rI CPow fun i j => .int (i ^ j.toNat)
theorem Bo.ok {X : Cx} {C : Kls} : ∀ o : Bo, OpR X (binaryOp o.op) (o.r X.K) ∧ OpS X.K C o.f (o.r X.K)
  | .add => ⟨or_add, os_add⟩ | .sub => ⟨op_sub, os_sub⟩ | .mul => ⟨or_mul, os_mul⟩ | .div => ⟨op_fdivN, os_div⟩ | .mod => ⟨op_modN, os_mod⟩ | .pow => ⟨op_pow, os_pow⟩
def Cm.r (K : PySem.W.Frag) : Cm → R2
  | .eq => rEqA K false | .ne => rEqA K true | .lt => rI0 fun i j => .bl (decide (i < j)) | .le => rI0 fun i j => .bl (decide (i ≤ j)) | .gt => rI0 fun i j => .bl (decide (j < i)) | .ge => rI0 fun i j => .bl (decide (j ≤ i))
  | .isin => rInA K false | .notin => rInA K true | .is => rIsA false | .isnot => rIsA true
theorem Cm.ok {X : Cx} {C : Kls} {n : Nat} (hr : Room n X.A) : ∀ o : Cm, OpR X (compareOp o.op) (o.r X.K) ∧ OpS X.K C o.f (o.r X.K)
  | .eq => ⟨op_eqA hr.units, os_eq false⟩ | .ne => ⟨op_neA hr.units, os_eq true⟩
  | .lt => ⟨op_lt, os_cInt _⟩ | .le => ⟨op_le, os_cInt _⟩ | .gt => ⟨op_gt, os_cInt _⟩ | .ge => ⟨op_ge, os_cInt _⟩
  | .isin => ⟨op_inA (by have := hr.un; omega), os_in false⟩ | .notin => ⟨op_notInA (by have := hr.un; omega), os_in true⟩
  | .is => ⟨op_isA, os_is false⟩ | .isnot => ⟨op_isnotA, os_is true⟩
theorem Cm.chnOk {X : Cx} : ∀ o : Cm, o.chn = true → OpR X (compareOp o.op) (rI0 fun i j => .bl (o.p i j))
  | .lt, _ => op_lt | .le, _ => op_le | .gt, _ => op_gt | .ge, _ => op_ge
  | .eq, h | .ne, h | .isin, h | .notin, h | .is, h | .isnot, h => by cases h
theorem conB_ok {X : Cx} {c : Const} {d : D} {k : Nat} {p : Pos} (h : conB d c = true) : ∃ v, PE X (.Constant c k p) (tC v) ∧ ∀ K F, Sh K F v d := by
  cases d <;> cases c <;> first | (cases h; done) | skip
  · exact ⟨_, pe_non, fun _ _ => Sh.non⟩
  · have := beq_iff_eq.mp h; subst this; exact ⟨_, pe_bl, fun _ _ => Sh.bl⟩
  · have := beq_iff_eq.mp h; subst this; exact ⟨_, pe_int, fun _ _ => Sh.int⟩
  · have h : (_ == _ && PyData.strOk _) = true := h
    rw [Bool.and_eq_true] at h
    have := beq_iff_eq.mp h.1
    subst this
    exact ⟨_, pe_str, fun _ _ => Sh.str h.2⟩
section
variable {X : Cx} {C : Kls} {md : Md} {fl : List (Str × Str)} {n : Nat} {ctx : Ctx} {E : XK}
theorem tgB_nm {i : Nat} {e : Expr} (h : Xo X C md fl n ctx E) (g : nmB ctx i e = true) : PG X e (gName i) ∧ ∃ x p, e = .Name x p := by
  replace g := optB_ok g
  obtain ⟨x, hx, g⟩ := g
  obtain ⟨p, rfl⟩ := vName_ok hx
  rw [Bool.and_eq_true, Bool.and_eq_true, Bool.or_eq_true] at g
  refine ⟨pg_name h.nd (by rw [h.N]; exact of_decide_eq_true g.1.1) (h.loc g.1.2) ?_, x, p, rfl⟩
  rcases g.2 with z | z
  · exact .inl (by rw [h.fn]; exact z)
  · exact .inr (h.isLoc z)
theorem tgB_nms (h : Xo X C md fl n ctx E) : ∀ {ts : List Nat} {es : List Expr}, es.length = ts.length → ((ts.zip es).all fun p => nmB ctx p.1 p.2) = true → PGs X es (gNames ts)
  | [], [], _, _ => pgs_nil
  | t :: ts, e :: es, hl, g => by
    rw [List.zip_cons_cons, List.all_cons, Bool.and_eq_true] at g
    obtain ⟨z, x, p, rfl⟩ := tgB_nm h g.1
    exact pgs_cons z (tgB_nms h (by simpa using hl) g.2)
  | [], _ :: _, hl, _ => by cases hl
  | _ :: _, [], hl, _ => by cases hl
theorem asgEach (env : Env) : ∀ {ts : List Nat} {es : List Expr}, ((ts.zip es).all fun p => nmB ctx p.1 p.2) = true → es.length = ts.length → assignEach es env = es.map fun e => (false, assign e env)
  | [], [], _, _ => rfl
  | t :: ts, e :: es, g, hl => by
    rw [List.zip_cons_cons, List.all_cons, Bool.and_eq_true] at g
    have g1 : nmB ctx t e = true := g.1
    obtain ⟨x, hx, _⟩ := optB_ok g1
    obtain ⟨p, rfl⟩ := vName_ok hx
    rw [List.map_cons, ← asgEach env g.2 (by simpa using hl)]
    rfl
  | [], _ :: _, _, hl => by cases hl
  | _ :: _, [], _, hl => by cases hl
def tgG (K : PySem.W.Frag) : Tg → TG
  | .nm i => gName i
  | .tp ts => gBoth K ts.length (gNames ts)
theorem tgG_ok (K : PySem.W.Frag) : ∀ t : Tg, TgOk K (tgG K t) t
  | .nm i => tg_nm i
  | .tp ts => tg_tp ts
theorem tgB_ok {t : Tg} {e : Expr} (h : Xo X C md fl n ctx E) (g : tgB ctx t e = true) : PG X e (tgG X.K t) := by
  cases t with
  | nm i => exact (tgB_nm h g).1
  | tp ts =>
    replace g := optB_ok g
    obtain ⟨es, hx, g⟩ := g
    obtain ⟨k, p, rfl⟩ := vTup_ok hx
    rw [Bool.and_eq_true] at g
    have hl : es.length = ts.length := of_decide_eq_true g.1
    have z := asgEach X.env (ts := ts) g.2 hl
    have z2 : (assignEach es X.env).length = ts.length := by rw [z, List.length_map, hl]
    have := pg_both (k := k) (pos := p) h.calm (tgB_nms h hl g.2) z2 (by
      rw [z, List.findIdx?_map, List.findIdx?_eq_none_iff]
      intro x _
      rfl)
    exact this
theorem var_of {i : Nat} {e : Expr} (h : Xo X C md fl n ctx E) (g : varB ctx i e = true) : PE X e (tVar i) ∧ ∃ x p, e = .Name x p := by
  replace g := optB_ok g
  obtain ⟨x, hx, g⟩ := g
  obtain ⟨p, rfl⟩ := vName_ok hx
  rw [Bool.and_eq_true, Bool.and_eq_true] at g
  exact ⟨h.var (of_decide_eq_true g.1.1) g.1.2 g.2, x, p, rfl⟩
theorem opd_of {c : Co} {e : Expr} (h : Xo X C md fl n ctx E) (g : ck md.toMs fl ctx c e = true) (ih : PE X e (lif X.K C (WE' E) (den md c))) : Opd X C (WE' E) e (late c) (den md c) := by
  cases c with
  | var i => exact (var_of h g).1
  | _ => exact ih
theorem mem_of {α : Type} [BEq α] [LawfulBEq α] {a : α} {l : List α} (h : l.contains a = true) : a ∈ l := List.contains_iff_mem.mp h
theorem isNm_ok {e : Expr} {x : Str} (g : isNm e x = true) : ∃ p, e = .Name x p := vName_ok (beq_iff_eq.mp g)
theorem bl_mem (b : B1) : b.nm ∈ bltNames := by cases b <;> decide +kernel
theorem me_never {W : WX} {e : Expr} : PE X e (lif X.K C W fun _ => .no) := ⟨fun _ _ _ _ _ _ ⟨_, _, _, _, _, o⟩ => o.elim⟩
theorem mt_never {W : WX} {e : Expr} : PT X e (lifT X.K C W fun _ => .no) := ⟨fun _ _ _ _ _ _ ⟨_, _, _, _, _, o⟩ => o.elim⟩
theorem mw_never {W : WX} {e : Expr} : PW X e (lifT X.K C W fun _ => .no) := ⟨fun _ _ _ _ _ _ _ ⟨_, _, _, _, _, o⟩ => o.elim⟩
theorem callV_never {f : Fn} {m : Mo (List Vl)} (hf : ∀ a ms, f a ms = .no) {W : WX} {K : PySem.W.Frag} {F : Hp} {φ : List Addr} {G : Hp} {σ : L2.St} {Q : VK} {s : S} {rs : List Vl} {s' : S} (e : m s = .ok rs s') (o : OutE K C W F φ G σ Q (callV f m s)) : False := by
  have : callV f m s = .no := by
    show (m s).bind _ = _
    rw [e]
    show (match f rs s'.mem with
      | .ok r s'' => Rs.ok r { s' with mem := s''.mem }
      | .exc c fs s'' => .exc c fs { s' with mem := s''.mem }
      | .no => .no) = _
    rw [hf]
  rw [this] at o
  exact o
theorem b1_ok {b : B1} {a : Expr} {la : Option Nat} {ma : Mo Vl} {p pos : Pos} (h : Xo X C md fl n ctx E) (g : glB ctx.sc b.nm = true) (ha : Opd X C (WE' E) a la ma) (he : starEach [a] X.env = (false, eval a X.env) :: starEach [] X.env) :
    PE X (.Call (.Name b.nm p) [a] [] pos) (lif X.K C (WE' E) (op1 la ma b.f)) := by
  have hm := h.mod.blt _ (bl_mem b)
  have hg := h.gl g
  cases b with
  | len => exact me_blt1 cr_len bl_len hg hm PySem.boot_len ha (by decide) (by decide) he
  | int => exact me_ty1 call_int1 bl_int hg hm PyProof.Rows.boot_int ha (by decide) (by decide) he
  | tuple => exact me_ty1 call_tuple_of bl_tup hg hm PyProof.Rows.boot_tuple ha (by decide) (by decide) he
  | list => exact me_ty1 call_list_of bl_lst hg hm PyProof.Rows.boot_list ha (by decide) (by decide) he
  | max => exact me_blt1 (cr_max h.calm) bl_max hg hm PyProof.Rows.boot_max ha (by decide) (by decide) he
  | min => exact me_blt1 (cr_min h.calm) bl_min hg hm PyProof.Rows.boot_min ha (by decide) (by decide) he
  | sum => exact me_blt1 (cr_sum h.calm) bl_sum hg hm PyProof.Rows.boot_sum ha (by decide) (by decide) he
theorem bn_ok {b : Bn} {e : Expr} {es : List Expr} {m : Mo (List Vl)} {p pos : Pos} (h : Xo X C md fl n ctx E) (g : glB ctx.sc b.nm = true) (ha : PA X (e :: es) (lifA X.K C (WE' E) m)) (he : starEach (e :: es) X.env = (false, eval e X.env) :: starEach es X.env) (hp : (backTo pos (starEach es X.env)).any (·.1) = false) :
    PE X (.Call (.Name b.nm p) (e :: es) [] pos) (lif X.K C (WE' E) (bltN b.f m)) := by
  have hm : X.mg b.nm = none := h.mod.blt _ (by cases b <;> decide +kernel)
  have hg := h.gl g
  cases b with
  | max => exact me_bltN (cr_maxN h.calm) bl_maxN hg hm PyProof.Rows.boot_max ha (by decide) (by decide) he hp
  | min => exact me_bltN (call_min2 h.calm) bl_minN hg hm PyProof.Rows.boot_min ha (by decide) (by decide) he hp
theorem ty_boot (T : Ty) : bootBuiltins T.st = some (.type T.nm) ∧ T.st ∈ bltNames ∧ T.st ≠ "__name__" ∧ (T.st == ("__debug__" : Str)) = false := by
  cases T <;> refine ⟨by decide +kernel, by decide +kernel, by decide, by decide⟩
theorem isi_ok {T : Ty} {a : Expr} {la : Option Nat} {ma : Mo Vl} {p p2 pos : Pos} (h : Xo X C md fl n ctx E) (g : glB ctx.sc "isinstance" = true) (g2 : glB ctx.sc T.st = true) (ha : Opd X C (WE' E) a la ma) (he : starEach [a, .Name T.st p2] X.env = (false, eval a X.env) :: starEach [.Name T.st p2] X.env) :
    PE X (.Call (.Name "isinstance" p) [a, .Name T.st p2] [] pos) (lif X.K C (WE' E) (isiV T la ma)) := by
  obtain ⟨h1, h2, h3, h4⟩ := ty_boot T
  exact me_isi (h.gl g) (h.mod.blt _ (by decide +kernel)) (h.gl g2) (h.mod.blt _ h2) h1 h3 h4 ha he
theorem mu_ok {u : Mu} {i : Nat} {x : Str} {e : Expr} {es : List Expr} {m : Mo (List Vl)} {p ap cp : Pos} (ho : PE X (.Name x p) (tVar i)) (ha : PA X (e :: es) (lifA X.K C (WE' E) m))
    (hfew : ((backTo cp (starEach (e :: es) X.env)).all (fun x => !x.1) && (backToKw cp (keywordEach [] X.env)).all (fun x => x.1.isSome)
      && decide ((e :: es).length + ([] : List Keyword).length + (if ([] : List Keyword).isEmpty then 0 else 1) < 30)) = true)
    (hline : (ap.endLine == cp.line) = true) (hs : starEach (e :: es) X.env = (false, eval e X.env) :: starEach es X.env) (hplain : (backTo cp (starEach es X.env)).any (·.1) = false) :
    PE X (.Call (.Attribute (.Name x p) u.nm ap) (e :: es) [] cp) (lif X.K C (WE' E) (mutV i m u.f)) := by
  cases u with
  | append => exact me_mut mu_append PySem.F.slot_list_append PySem.F.type_list_append mt_append ho ha rfl hfew hline hs hplain
  | pop => exact me_mut mu_pop PySem.F.slot_list_pop PySem.F.type_list_pop mt_popAt ho ha rfl hfew hline hs hplain
  | extend => exact me_mut mu_extend PySem.F.slot_list_extend PySem.F.type_list_extend mt_extendL ho ha rfl hfew hline hs hplain
end
theorem ck_kon {md : Md} {fl : List (Str × Str)} {d : D}  {ctx : Ctx} {e : Expr} (g : ck md.toMs fl ctx (.kon d) e = true) {X : Cx} {C : Kls} {n : Nat} {E : XK} (h : Xo X C md fl n ctx E) : PE X e (lif X.K C (WE' E) (den md (.kon d))) := by
  replace g := optB_ok g
  obtain ⟨c, hx, g⟩ := g
  obtain ⟨k, p, rfl⟩ := vCon_ok hx
  obtain ⟨v, h1, h2⟩ := conB_ok (X := X) (k := k) (p := p) g
  exact me_con h1 (h2 X.K)
theorem ck_sub {md : Md} {fl : List (Str × Str)} {a b : Co} (ha : ∀ (ctx : Ctx) (e : Expr), ck md.toMs fl ctx a e = true → ∀ (X : Cx) (C : Kls) (n : Nat) (E : XK), Xo X C md fl n ctx E → PE X e (lif X.K C (WE' E) (den md a))) (hb : ∀ (ctx : Ctx) (e : Expr), ck md.toMs fl ctx b e = true → ∀ (X : Cx) (C : Kls) (n : Nat) (E : XK), Xo X C md fl n ctx E → PE X e (lif X.K C (WE' E) (den md b))) {ctx : Ctx} {e : Expr} (g : ck md.toMs fl ctx (.sub a b) e = true) {X : Cx} {C : Kls} {n : Nat} {E : XK} (h : Xo X C md fl n ctx E) : PE X e (lif X.K C (WE' E) (den md (.sub a b))) := by
  replace g := optB_ok g
  obtain ⟨v, hx, g⟩ := g
  obtain ⟨p, rfl⟩ := vSub_ok hx
  rw [Bool.and_eq_true, Bool.and_eq_true] at g
  exact me_sub (opd_of h g.1.2 (ha ctx _ g.1.2 X C n E h)) (opd_of h g.2 (hb ctx _ g.2 X C n E h)) (plainIx_of g.1.1)
theorem ck_cal {md : Md} {fl : List (Str × Str)} {x : Str} {es : CoL} (hes : ∀ (ctx : Ctx) (vs : List Expr), ckL md.toMs fl ctx es vs = true → ∀ (X : Cx) (C : Kls) (n : Nat) (E : XK), Xo X C md fl n ctx E → PA X vs (lifA X.K C (WE' E) (evalL (denL md es)))) {ctx : Ctx} {e : Expr} (g : ck md.toMs fl ctx (.cal x es) e = true) {X : Cx} {C : Kls} {n : Nat} {E : XK} (h : Xo X C md fl n ctx E) : PE X e (lif X.K C (WE' E) (den md (.cal x es))) := by
  replace g := optB_ok g
  obtain ⟨v, hx, g⟩ := g
  obtain ⟨p, rfl⟩ := vCl_ok hx
  simp only [Bool.and_eq_true] at g
  obtain ⟨⟨⟨⟨⟨g1, g2⟩, g3⟩, g4⟩, g5⟩, g6⟩ := g
  obtain ⟨p2, e2⟩ := isNm_ok g1
  rw [e2]
  have ih := hes ctx _ g5 X C n E h
  obtain ⟨f, vs⟩ := v
  dsimp only at g5 g4 ih e2 ⊢
  cases vs with
  | nil => cases g4
  | cons w ws =>
    cases es with
    | nil => cases g5
    | cons c cs =>
      have g5 : (ck md.toMs fl ctx c w && ckL md.toMs fl ctx cs ws) = true := g5
      rw [Bool.and_eq_true] at g5
      exact me_call (h.mod.fns x (mem_of g6)) (h.room.mono (Nat.le_succ n)) (h.gl g2) h.tk ih (odd_ok g3).1 (star_of g5.1) (plain_of g5.2)
theorem ck_isi {md : Md} {fl : List (Str × Str)} {T : Ty} {a : Co} (ha : ∀ (ctx : Ctx) (e : Expr), ck md.toMs fl ctx a e = true → ∀ (X : Cx) (C : Kls) (n : Nat) (E : XK), Xo X C md fl n ctx E → PE X e (lif X.K C (WE' E) (den md a))) {ctx : Ctx} {e : Expr} (g : ck md.toMs fl ctx (.isi T a) e = true) {X : Cx} {C : Kls} {n : Nat} {E : XK} (h : Xo X C md fl n ctx E) : PE X e (lif X.K C (WE' E) (den md (.isi T a))) := by
  replace g := optB_ok g
  obtain ⟨v, hx, g⟩ := g
  replace g := optB_ok g
  obtain ⟨w, h1, g⟩ := g
  obtain ⟨p, rfl⟩ := vCl_ok hx
  simp only [Bool.and_eq_true] at g
  obtain ⟨⟨⟨⟨g1, g2⟩, g3⟩, g4⟩, g5⟩ := g
  obtain ⟨p2, e2⟩ := isNm_ok g1
  obtain ⟨p3, e3⟩ := isNm_ok g3
  rw [e2, l2_ok h1, e3]
  exact isi_ok h g2 g4 (opd_of h g5 (ha ctx _ g5 X C n E h)) (star_of g5)
theorem Xo.gx {x : Str} {sc cs : Scope} (h : Xo X C md fl n ctx E) {B : Around} {s2 : Shared} {H2 : Hp} {fp : List Addr} {cenv : Env} {pn : List (Addr × Obj)} (hs : cenv.scope = sc) (hr : Room (n + 1) (B.deeper cenv)) :
    Xo (gX X B s2 H2 fp x cenv pn) C md fl n (ctxG x sc) (fun _ _ _ => False) where
  mod := h.mod.tr0
  calm := rfl
  nd := by show [x].Nodup; simp
  N := rfl
  sc := hs
  fn := rfl
  room := hr
  tk := takes0
  gn := fun y z => by cases z
theorem ck_all {md : Md} {fl : List (Str × Str)} {it : CoI} {elt : Co} (hI : ∀ (ctx : Ctx) (tg e : Expr), ckI md.toMs fl ctx it tg e = true → ∀ (X : Cx) (C : Kls) (n : Nat) (E : XK), Xo X C md fl n ctx E → ∀ tg' : Expr, (tg' = tg ∨ vTup tg = none) → PI X tg' e (lifI X.K C (WE' E) (denI md it)))
    (hE : ∀ (ctx : Ctx) (e : Expr), ck md.toMs fl ctx elt e = true → ∀ (X : Cx) (C : Kls) (n : Nat) (E : XK), Xo X C md fl n ctx E → PE X e (lif X.K C (WE' E) (den md elt)))
    {ctx : Ctx} {e : Expr} (g : ck md.toMs fl ctx (.all it elt) e = true) {X : Cx} {C : Kls} {n : Nat} {E : XK} (h : Xo X C md fl n ctx E) : PE X e (lif X.K C (WE' E) (den md (.all it elt))) := by
  replace g := optB_ok g
  obtain ⟨v, hx, g⟩ := g
  obtain ⟨p, q, r, rfl⟩ := vGn_ok hx
  simp only [Bool.and_eq_true] at g
  obtain ⟨⟨⟨⟨⟨⟨g1, g2⟩, g3⟩, g4⟩, g5⟩, g6⟩, g7⟩ := g
  obtain ⟨y, hy⟩ := Option.isSome_iff_exists.mp g3
  obtain ⟨y1, y2, c, P, y3, y4, y5⟩ := h.gn y hy
  obtain ⟨p2, e2⟩ := isNm_ok g1
  rw [e2]
  exact me_all (k := n + 1) y2 (h.gl g2) (h.mod.blt _ (by decide +kernel)) y4 y3 y1 y5 (gnS_ok g4) (hI ctx _ _ g6 X C n E h _ (.inr rfl)) (fun B s2 H2 fp cenv pn hs hr => hE _ _ g7 _ C n _ (h.gx (cs := v.2.2.2.2) hs hr)) (gfold_of g5)
mutual
theorem ck_ok {md : Md} {fl : List (Str × Str)} : ∀ (c : Co) (ctx : Ctx) (e : Expr), ck md.toMs fl ctx c e = true → ∀ (X : Cx) (C : Kls) (n : Nat) (E : XK), Xo X C md fl n ctx E → PE X e (lif X.K C (WE' E) (den md c))
  | .var i, ctx, e, g, X, C, n, E, h => me_var (var_of h g).1
  | .kon d, ctx, e, g, X, C, n, E, h => ck_kon g h
  | .glb k, ctx, e, g, X, C, n, E, h => by
    replace g := optB_ok g
    obtain ⟨x, hx, g⟩ := g
    obtain ⟨p, rfl⟩ := vName_ok hx
    rw [Bool.and_eq_true, Bool.and_eq_true] at g
    obtain ⟨q, hq, g1⟩ := optB_ok g.1.1
    have := beq_iff_eq.mp g1
    subst this
    obtain ⟨v, u, h1, h2, h3⟩ := h.mod.con k q hq
    have z := me_con (W := WE' E) (C := C) (pe_glob (pos := p) (h.gl g.1.2) h1 h2 (odd_ok g.2).1) h3
    have e : den md (.glb k) = pur (Vl.dat q.2) := by
      show (match md.con[k]? with
        | some p => pur (Vl.dat p.2)
        | none => fun _ => Rs.no) = _
      rw [hq]
    rw [e]
    exact z
  | .bin o a b, ctx, e, g, X, C, n, E, h => by
    replace g := optB_ok g
    obtain ⟨v, hx, g⟩ := g
    obtain ⟨p, rfl⟩ := vBin_ok hx
    rw [Bool.and_eq_true, Bool.and_eq_true] at g
    have := beq_iff_eq.mp g.1.1
    rw [this]
    exact me_bin (Bo.ok (C := C) o).1 (Bo.ok o).2 (opd_of h g.1.2 (ck_ok a ctx _ g.1.2 X C n E h)) (opd_of h g.2 (ck_ok b ctx _ g.2 X C n E h))
  | .cmp o a b, ctx, e, g, X, C, n, E, h => by
    replace g := optB_ok g
    obtain ⟨v, hx, g⟩ := g
    replace g := optB_ok g
    obtain ⟨op, h1, g⟩ := g
    replace g := optB_ok g
    obtain ⟨r, h2, g⟩ := g
    obtain ⟨p, rfl⟩ := vCmp_ok hx
    rw [l1_ok h1, l1_ok h2]
    simp only [Bool.and_eq_true] at g
    have := beq_iff_eq.mp g.1.1.1
    rw [this]
    exact me_cmp (Cm.ok (C := C) h.room o).1 (Cm.ok h.room o).2 (opd_of h g.1.2 (ck_ok a ctx _ g.1.2 X C n E h)) (opd_of h g.2 (ck_ok b ctx _ g.2 X C n E h)) (mark_of g.1.1.2)
  | .chn o o' a b c, ctx, e, g, X, C, n, E, h => by
    replace g := optB_ok g
    obtain ⟨v, hx, g⟩ := g
    replace g := optB_ok g
    obtain ⟨op, h1, g⟩ := g
    replace g := optB_ok g
    obtain ⟨r, h2, g⟩ := g
    obtain ⟨p, rfl⟩ := vCmp_ok hx
    rw [l2_ok h1, l2_ok h2]
    simp only [Bool.and_eq_true] at g
    obtain ⟨⟨⟨⟨⟨⟨⟨g1, g2⟩, g3⟩, g4⟩, g5⟩, g6⟩, g7⟩, g8⟩ := g
    rw [beq_iff_eq.mp g1, beq_iff_eq.mp g2]
    exact me_chn (Cm.chnOk o g3) (Cm.chnOk o' g4) (opd_of h g6 (ck_ok a ctx _ g6 X C n E h)) (opd_of h g7 (ck_ok b ctx _ g7 X C n E h)) (opd_of h g8 (ck_ok c ctx _ g8 X C n E h)) (show behindInMarks o'.op r.2 = false from mark_of g5)
  | .bls k es, ctx, e, g, X, C, n, E, h => by
    replace g := optB_ok g
    obtain ⟨v, hx, g⟩ := g
    obtain ⟨p, rfl⟩ := vBls_ok hx
    rw [Bool.and_eq_true] at g
    rw [beq_iff_eq.mp g.1]
    exact ckB_ok es k ctx _ p g.2 X C n E h
  | .not a, ctx, e, g, X, C, n, E, h => by
    replace g := optB_ok g
    obtain ⟨v, hx, g⟩ := g
    obtain ⟨p, rfl⟩ := vUn_ok hx
    rw [Bool.and_eq_true] at g
    rw [beq_iff_eq.mp g.1]
    exact me_not (ck_ok a ctx _ g.2 X C n E h)
  | .neg a, ctx, e, g, X, C, n, E, h => by
    replace g := optB_ok g
    obtain ⟨v, hx, g⟩ := g
    obtain ⟨p, rfl⟩ := vUn_ok hx
    rw [Bool.and_eq_true] at g
    rw [beq_iff_eq.mp g.1]
    exact me_neg (ck_ok a ctx _ g.2 X C n E h)
  | .ite t a b, ctx, e, g, X, C, n, E, h => by
    replace g := optB_ok g
    obtain ⟨v, hx, g⟩ := g
    obtain ⟨p, rfl⟩ := vIte_ok hx
    rw [Bool.and_eq_true, Bool.and_eq_true] at g
    exact me_ite (ckT_ok t ctx _ g.1.1 X C n E h) (ck_ok a ctx _ g.1.2 X C n E h) (ck_ok b ctx _ g.2 X C n E h)
  | .tup es, ctx, e, g, X, C, n, E, h => by
    replace g := optB_ok g
    obtain ⟨v, hx, g⟩ := g
    obtain ⟨k, p, rfl⟩ := vTup_ok hx
    exact me_tup (ckL_ok es ctx _ g X C n E h)
  | .lst es, ctx, e, g, X, C, n, E, h => by
    replace g := optB_ok g
    obtain ⟨v, hx, g⟩ := g
    obtain ⟨p, rfl⟩ := vLst_ok hx
    exact me_lst (ckL_ok es ctx _ g X C n E h)
  | .sub a b, ctx, e, g, X, C, n, E, h => ck_sub (ck_ok a) (ck_ok b) g h
  | .slc a lo hi, ctx, e, g, X, C, n, E, h => by
    replace g := optB_ok g
    obtain ⟨v, hx, g⟩ := g
    obtain ⟨p, q, rfl⟩ := vSl_ok hx
    rw [Bool.and_eq_true, Bool.and_eq_true] at g
    obtain ⟨tl, hl⟩ := ckP_ok lo ctx _ g.1.2 X C n E h
    obtain ⟨th, hh⟩ := ckP_ok hi ctx _ g.2 X C n E h
    exact me_sl (opd_of h g.1.1 (ck_ok a ctx _ g.1.1 X C n E h)) hl hh
  | .cal x es, ctx, e, g, X, C, n, E, h => ck_cal (ckL_ok es) g h
  | .bl1 b a, ctx, e, g, X, C, n, E, h => by
    replace g := optB_ok g
    obtain ⟨v, hx, g⟩ := g
    replace g := optB_ok g
    obtain ⟨w, h1, g⟩ := g
    obtain ⟨p, rfl⟩ := vCl_ok hx
    simp only [Bool.and_eq_true] at g
    obtain ⟨p2, e2⟩ := isNm_ok g.1.1
    rw [e2, l1_ok h1]
    exact b1_ok h g.1.2 (opd_of h g.2 (ck_ok a ctx _ g.2 X C n E h)) (star_of g.2)
  | .bln b es, ctx, e, g, X, C, n, E, h => by
    replace g := optB_ok g
    obtain ⟨v, hx, g⟩ := g
    obtain ⟨p, rfl⟩ := vCl_ok hx
    simp only [Bool.and_eq_true] at g
    obtain ⟨⟨⟨g1, g2⟩, g4⟩, g5⟩ := g
    obtain ⟨p2, e2⟩ := isNm_ok g1
    rw [e2]
    have ih := ckL_ok es ctx _ g5 X C n E h
    obtain ⟨f, vs⟩ := v
    dsimp only at g5 g4 ih e2 ⊢
    cases vs with
    | nil => cases g4
    | cons w ws =>
      cases es with
      | nil => cases g5
      | cons c cs =>
        have g5 : (ck md.toMs fl ctx c w && ckL md.toMs fl ctx cs ws) = true := g5
        rw [Bool.and_eq_true] at g5
        exact bn_ok h g2 ih (star_of g5.1) (plain_of g5.2)
  | .isi T a, ctx, e, g, X, C, n, E, h => ck_isi (ck_ok a) g h
  | .lrg a, ctx, e, g, X, C, n, E, h => by
    replace g := optB_ok g
    obtain ⟨v, hx, g⟩ := g
    replace g := optB_ok g
    obtain ⟨w, h1, g⟩ := g
    obtain ⟨p, rfl⟩ := vCl_ok hx
    simp only [Bool.and_eq_true] at g
    obtain ⟨⟨g1, g2⟩, g⟩ := g
    replace g := optB_ok g
    obtain ⟨u, hu, g⟩ := g
    replace g := optB_ok g
    obtain ⟨z, h3, g⟩ := g
    obtain ⟨q, rfl⟩ := vCl_ok hu
    simp only [Bool.and_eq_true] at g
    obtain ⟨p2, e2⟩ := isNm_ok g1
    obtain ⟨p3, e3⟩ := isNm_ok g.1.1
    rw [e2, l1_ok h1, e3, l1_ok h3]
    exact me_lrg h.calm (h.gl g2) (h.mod.blt _ (by decide +kernel)) (h.gl g.1.2) (h.mod.blt _ (by decide +kernel)) (ck_ok a ctx _ g.2 X C n E h) (star_of g.2)
  | .mut u i es, ctx, e, g, X, C, n, E, h => by
    replace g := optB_ok g
    obtain ⟨v, hx, g⟩ := g
    rw [vMth_ok hx]
    simp only [Bool.and_eq_true] at g
    obtain ⟨⟨⟨⟨⟨g1, g2⟩, g3⟩, g4⟩, g5⟩, g6⟩ := g
    obtain ⟨ho, x, p, eo⟩ := var_of h g6
    have ih := ckL_ok es ctx _ g5 X C n E h
    obtain ⟨o, nm, ap, vs, cp⟩ := v
    dsimp only at g1 g2 g3 g4 g5 ih ho eo ⊢
    rw [beq_iff_eq.mp g1]
    subst eo
    cases vs with
    | nil => cases g3
    | cons w ws =>
      cases es with
      | nil => cases g5
      | cons c cs =>
        have hfew := few_of (env := X.env) (pos := cp) g5 (of_decide_eq_true g4)
        have g5 : (ck md.toMs fl ctx c w && ckL md.toMs fl ctx cs ws) = true := g5
        rw [Bool.and_eq_true] at g5
        exact mu_ok ho ih hfew g2 (star_of g5.1) (plain_of g5.2)
  | .fld c i f, ctx, e, g, X, C, n, E, h => by
    replace g := optB_ok g
    obtain ⟨v, hx, g⟩ := g
    obtain ⟨p, rfl⟩ := vAtt_ok hx
    simp only [Bool.and_eq_true] at g
    obtain ⟨⟨g1, g2⟩, g3⟩ := g
    obtain ⟨ho, x, p2, eo⟩ := var_of h g3
    rw [beq_iff_eq.mp g1, eo]
    rw [eo] at ho
    exact me_fld (fun k hk => h.mod.fld (c, f) (mem_of g2) k hk) ho rfl
  | .mth c m i es, ctx, e, g, X, C, n, E, h => by
    replace g := optB_ok g
    obtain ⟨v, hx, g⟩ := g
    rw [vMth_ok hx]
    simp only [Bool.and_eq_true] at g
    obtain ⟨⟨⟨⟨⟨g1, g5⟩, g6⟩, g7⟩, g8⟩, g9⟩ := g
    obtain ⟨ho, x, p, eo⟩ := var_of h g6
    have ih := ckL_ok es ctx _ g5 X C n E h
    obtain ⟨o, nm, ap, vs, cp⟩ := v
    dsimp only at g1 g5 g7 g8 ih ho eo ⊢
    rw [beq_iff_eq.mp g1]
    subst eo
    have hf := h.mod.mts (c, m) (mem_of g9)
    have ht := meth_ht (x := x) (mn := m) (p := p) (env := X.env) g7 (by
      have := few_of (env := X.env) (pos := cp) g5 (of_decide_eq_true g8)
      exact this)
    cases vs with
    | nil =>
      cases es with
      | nil => exact me_mth0 hf (h.room.mono (Nat.le_succ n)) h.tk ho ht
      | cons _ _ => cases g5
    | cons w ws =>
      cases es with
      | nil => cases g5
      | cons d ds =>
        have g5 : (ck md.toMs fl ctx d w && ckL md.toMs fl ctx ds ws) = true := g5
        rw [Bool.and_eq_true] at g5
        exact me_mth hf (h.room.mono (Nat.le_succ n)) h.tk ho ih (star_of g5.1) (plain_of g5.2) ht
  | .mak c, ctx, e, g, X, C, n, E, h => by
    replace g := optB_ok g
    obtain ⟨v, hx, g⟩ := g
    obtain ⟨p, rfl⟩ := vCl_ok hx
    simp only [Bool.and_eq_true] at g
    obtain ⟨⟨⟨⟨g1, g2⟩, g3⟩, g4⟩, g5⟩ := g
    obtain ⟨p2, e2⟩ := isNm_ok g2
    rw [e2, List.isEmpty_iff.mp g1]
    exact me_mak0 (h.mod.ini c (mem_of g5)) h.room (h.gl g3) h.tk (odd_ok g4).1
  | .com tg it cond elt own, ctx, e, g, X, C, n, E, h => by
    replace g := optB_ok g
    obtain ⟨v, hx, g⟩ := g
    obtain ⟨p, rfl⟩ := vC1_ok hx
    simp only [Bool.and_eq_true] at g
    obtain ⟨⟨⟨⟨⟨⟨g1, g2⟩, g3⟩, g4⟩, g5⟩, g6⟩, g7⟩ := g
    have hb := fun s H Ca cl fp => h.blk s H v.2.2.2.2 Ca cl fp
    refine me_comp h.calm h.nd (ckI_ok it ctx _ _ g5 X C n E h _ (.inl rfl)) (blkOk_by (by rw [h.N, h.sc]; exact g1)) (tgG_ok X.K tg) (fun i hi => ?_) (fun s H Ca cl fp => tgB_ok (hb s H Ca cl fp) g3)
      (fun s H Ca cl fp => ckC_ok cond _ _ g6 _ C n _ (hb s H Ca cl fp)) (fun s H Ca cl fp => ck_ok elt _ _ g7 _ C n _ (hb s H Ca cl fp)) (fold_of g4)
    have := List.all_eq_true.mp g2 i hi
    simpa using this
  | .co2 tg it tg1 it1 elt own vs1, ctx, e, g, X, C, n, E, h => by
    replace g := optB_ok g
    obtain ⟨v, hx, g⟩ := g
    obtain ⟨p, rfl⟩ := vC2_ok hx
    simp only [Bool.and_eq_true] at g
    obtain ⟨⟨⟨⟨⟨⟨⟨⟨⟨⟨g1, g2⟩, g2'⟩, g2''⟩, g3⟩, g3'⟩, g4⟩, g4'⟩, g5⟩, g5'⟩, g7⟩ := g
    have hb := fun s H Ca cl fp => h.blk s H v.2.2.2.2.2 Ca cl fp
    refine me_comp2 h.calm h.nd (ckI_ok it ctx _ _ g5 X C n E h _ (.inl rfl)) (blkOk_by (by rw [h.N, h.sc]; exact g1)) (tgG_ok X.K tg) (fun i hi => ?_) (tgG_ok X.K tg1) (fun i hi => ?_) (fun i hi => ?_) (fun s H Ca cl fp => tgB_ok (hb s H Ca cl fp) g3)
      (fun s H Ca cl fp => pts_nilL) (fun s H Ca cl fp => ckI_ok it1 _ _ _ g5' _ C n _ (hb s H Ca cl fp) _ (.inl rfl)) (fun s H Ca cl fp => tgB_ok (hb s H Ca cl fp) g3') (fun s H Ca cl fp => ck_ok elt _ _ g7 _ C n _ (hb s H Ca cl fp)) (fold_of g4) (fun env => fold_of g4')
    · have := List.all_eq_true.mp g2 i hi
      simpa using this
    · have := List.all_eq_true.mp g2' i hi
      simpa using this
    · have := List.all_eq_true.mp g2'' i hi
      simpa using this
  | .han a, ctx, e, g, X, C, n, E, h => me_han (ck_ok a ctx e g X C n E h)
  | .all it elt, ctx, e, g, X, C, n, E, h => ck_all (ckI_ok it) (ck_ok elt) g h
theorem ckT_ok {md : Md} {fl : List (Str × Str)} : ∀ (c : Co) (ctx : Ctx) (e : Expr), ck md.toMs fl ctx c e = true → ∀ (X : Cx) (C : Kls) (n : Nat) (E : XK), Xo X C md fl n ctx E → PT X e (lifT X.K C (WE' E) (denT md c))
  | .bls k es, ctx, e, g, X, C, n, E, h => by
    replace g := optB_ok g
    obtain ⟨v, hx, g⟩ := g
    obtain ⟨p, rfl⟩ := vBls_ok hx
    rw [Bool.and_eq_true] at g
    rw [beq_iff_eq.mp g.1]
    exact (ckTB_ok es k ctx _ p g.2 X C n E h).pt
  | .not a, ctx, e, g, X, C, n, E, h => by
    replace g := optB_ok g
    obtain ⟨v, hx, g⟩ := g
    obtain ⟨p, rfl⟩ := vUn_ok hx
    rw [Bool.and_eq_true] at g
    rw [beq_iff_eq.mp g.1]
    exact mt_not (ckT_ok a ctx _ g.2 X C n E h)
  | .cmp o a b, ctx, e, g, X, C, n, E, h => by
    replace g := optB_ok g
    obtain ⟨v, hx, g⟩ := g
    replace g := optB_ok g
    obtain ⟨op, h1, g⟩ := g
    replace g := optB_ok g
    obtain ⟨r, h2, g⟩ := g
    obtain ⟨p, rfl⟩ := vCmp_ok hx
    rw [l1_ok h1, l1_ok h2]
    simp only [Bool.and_eq_true] at g
    have := beq_iff_eq.mp g.1.1.1
    rw [this]
    exact mt_cmp (Cm.ok (C := C) h.room o).1 (Cm.ok h.room o).2 (opd_of h g.1.2 (ck_ok a ctx _ g.1.2 X C n E h)) (opd_of h g.2 (ck_ok b ctx _ g.2 X C n E h)) (mark_of g.1.1.2)
  | .chn o o' a b c, ctx, e, g, X, C, n, E, h => by
    replace g := optB_ok g
    obtain ⟨v, hx, g⟩ := g
    replace g := optB_ok g
    obtain ⟨op, h1, g⟩ := g
    replace g := optB_ok g
    obtain ⟨r, h2, g⟩ := g
    obtain ⟨p, rfl⟩ := vCmp_ok hx
    rw [l2_ok h1, l2_ok h2]
    simp only [Bool.and_eq_true] at g
    obtain ⟨⟨⟨⟨⟨⟨⟨g1, g2⟩, g3⟩, g4⟩, g5⟩, g6⟩, g7⟩, g8⟩ := g
    rw [beq_iff_eq.mp g1, beq_iff_eq.mp g2]
    exact mt_chn (Cm.chnOk o g3) (Cm.chnOk o' g4) (opd_of h g6 (ck_ok a ctx _ g6 X C n E h)) (opd_of h g7 (ck_ok b ctx _ g7 X C n E h)) (opd_of h g8 (ck_ok c ctx _ g8 X C n E h)) (show behindInMarks o'.op r.2 = false from mark_of g5)
  | .var i, ctx, e, g, X, C, n, E, h => by
    obtain ⟨ho, x, p, rfl⟩ := var_of h g
    exact mt_val (me_var ho) fun _ => rfl
  | .kon d, ctx, e, g, X, C, n, E, h => by
    have z := ck_kon g h
    replace g := optB_ok g
    obtain ⟨c, hx, g⟩ := g
    obtain ⟨k, p, rfl⟩ := vCon_ok hx
    exact mt_val z fun _ => rfl
  | .sub a b, ctx, e, g, X, C, n, E, h => by
    have z := ck_sub (ck_ok a) (ck_ok b) g h
    replace g := optB_ok g
    obtain ⟨v, hx, g⟩ := g
    obtain ⟨p, rfl⟩ := vSub_ok hx
    exact mt_val z fun _ => rfl
  | .cal x es, ctx, e, g, X, C, n, E, h => by
    have z := ck_cal (ckL_ok es) g h
    replace g := optB_ok g
    obtain ⟨v, hx, g⟩ := g
    obtain ⟨p, rfl⟩ := vCl_ok hx
    exact mt_val z fun _ => rfl
  | .isi T a, ctx, e, g, X, C, n, E, h => by
    have z := ck_isi (ck_ok a) g h
    replace g := optB_ok g
    obtain ⟨v, hx, g⟩ := g
    obtain ⟨p, rfl⟩ := vCl_ok hx
    exact mt_val z fun _ => rfl
  | .ite _ _ _, _, _, _, _, _, _, _, _ | .glb _, _, _, _, _, _, _, _, _ | .bin _ _ _, _, _, _, _, _, _, _, _ | .neg _, _, _, _, _, _, _, _, _ | .tup _, _, _, _, _, _, _, _, _ | .lst _, _, _, _, _, _, _, _, _ | .slc _ _ _, _, _, _, _, _, _, _, _
  | .bl1 _ _, _, _, _, _, _, _, _, _ | .bln _ _, _, _, _, _, _, _, _, _ | .lrg _, _, _, _, _, _, _, _, _ | .mut _ _ _, _, _, _, _, _, _, _, _ | .fld _ _ _, _, _, _, _, _, _, _, _ | .mth _ _ _ _, _, _, _, _, _, _, _, _ | .mak _, _, _, _, _, _, _, _, _
  | .com _ _ _ _ _, _, _, _, _, _, _, _, _ | .co2 _ _ _ _ _ _ _, _, _, _, _, _, _, _, _ | .han _, _, _, _, _, _, _, _, _ => mt_never
  | .all it elt, ctx, e, g, X, C, n, E, h => by
    have z := ck_all (ckI_ok it) (ck_ok elt) g h
    replace g := optB_ok g
    obtain ⟨v, hx, g⟩ := g
    obtain ⟨p, q, r, rfl⟩ := vGn_ok hx
    exact mt_val z fun _ => rfl
theorem ckB_ok {md : Md} {fl : List (Str × Str)} : ∀ (es : CoL) (k : Bool) (ctx : Ctx) (vs : List Expr) (p : Pos), ckL md.toMs fl ctx es vs = true → ∀ (X : Cx) (C : Kls) (n : Nat) (E : XK), Xo X C md fl n ctx E → PE X (.BoolOp (if k then BoolOp.And else BoolOp.Or) vs p) (lif X.K C (WE' E) (denB md k es))
  | .nil, _, _, _, _, _, _, _, _, _, _ => me_never
  | .cons c .nil, k, ctx, e :: vs, p, g, X, C, n, E, h => by
    have g : (ck md.toMs fl ctx c e && vs.isEmpty) = true := g
    rw [Bool.and_eq_true] at g
    rw [List.isEmpty_iff.mp g.2]
    exact pe_one (ck_ok c ctx e g.1 X C n E h)
  | .cons c (.cons c' cs), k, ctx, e :: e' :: vs, p, g, X, C, n, E, h => by
    have g : (ck md.toMs fl ctx c e && ckL md.toMs fl ctx (.cons c' cs) (e' :: vs)) = true := g
    rw [Bool.and_eq_true] at g
    have ih := ckB_ok (.cons c' cs) k ctx (e' :: vs) p g.2 X C n E h
    have i1 := ck_ok c ctx e g.1 X C n E h
    cases k with
    | true => exact me_and i1 ih
    | false => exact me_or i1 ih
  | .cons c cs, _, _, [], _, g, _, _, _, _, _ => by cases g
  | .cons c (.cons c' cs), _, ctx, [e], _, g, _, _, _, _, _ => by
    have g : (ck md.toMs fl ctx c e && ckL md.toMs fl ctx (.cons c' cs) []) = true := g
    rw [Bool.and_eq_true] at g
    cases g.2
theorem ckTB_ok {md : Md} {fl : List (Str × Str)} : ∀ (es : CoL) (k : Bool) (ctx : Ctx) (vs : List Expr) (p : Pos), ckL md.toMs fl ctx es vs = true → ∀ (X : Cx) (C : Kls) (n : Nat) (E : XK), Xo X C md fl n ctx E → PW X (.BoolOp (if k then BoolOp.And else BoolOp.Or) vs p) (lifT X.K C (WE' E) (denTB md k es))
  | .nil, _, _, _, _, _, _, _, _, _, _ => mw_never
  | .cons c .nil, k, ctx, e :: vs, p, g, X, C, n, E, h => by
    have g : (ck md.toMs fl ctx c e && vs.isEmpty) = true := g
    rw [Bool.and_eq_true] at g
    rw [List.isEmpty_iff.mp g.2]
    have i1 := ckT_ok c ctx e g.1 X C n E h
    cases k with
    | true => exact pw_and1 i1
    | false => exact pw_or1 i1
  | .cons c (.cons c' cs), k, ctx, e :: e' :: vs, p, g, X, C, n, E, h => by
    have g : (ck md.toMs fl ctx c e && ckL md.toMs fl ctx (.cons c' cs) (e' :: vs)) = true := g
    rw [Bool.and_eq_true] at g
    have ih := ckTB_ok (.cons c' cs) k ctx (e' :: vs) p g.2 X C n E h
    have i1 := ckT_ok c ctx e g.1 X C n E h
    cases k with
    | true => exact mw_and i1 ih
    | false => exact mw_or i1 ih
  | .cons c cs, _, _, [], _, g, _, _, _, _, _ => by cases g
  | .cons c (.cons c' cs), _, ctx, [e], _, g, _, _, _, _, _ => by
    have g : (ck md.toMs fl ctx c e && ckL md.toMs fl ctx (.cons c' cs) []) = true := g
    rw [Bool.and_eq_true] at g
    cases g.2
theorem ckL_ok {md : Md} {fl : List (Str × Str)} : ∀ (es : CoL) (ctx : Ctx) (vs : List Expr), ckL md.toMs fl ctx es vs = true → ∀ (X : Cx) (C : Kls) (n : Nat) (E : XK), Xo X C md fl n ctx E → PA X vs (lifA X.K C (WE' E) (evalL (denL md es)))
  | .nil, ctx, vs, g, X, C, n, E, h => by
    rw [List.isEmpty_iff.mp g]
    exact ma_nil
  | .cons c cs, ctx, e :: vs, g, X, C, n, E, h => by
    have g : (ck md.toMs fl ctx c e && ckL md.toMs fl ctx cs vs) = true := g
    rw [Bool.and_eq_true] at g
    exact ma_cons (ck_ok c ctx e g.1 X C n E h) (ckL_ok cs ctx vs g.2 X C n E h) (star_of g.1)
  | .cons c cs, _, [], g, _, _, _, _, _ => by cases g
theorem ckI_ok {md : Md} {fl : List (Str × Str)} : ∀ (it : CoI) (ctx : Ctx) (tg e : Expr), ckI md.toMs fl ctx it tg e = true → ∀ (X : Cx) (C : Kls) (n : Nat) (E : XK), Xo X C md fl n ctx E → ∀ tg' : Expr, (tg' = tg ∨ vTup tg = none) → PI X tg' e (lifI X.K C (WE' E) (denI md it))
  | .seq a, ctx, _, e, g, X, C, n, E, h, tg, _ => mi_seq (ck_ok a ctx e g X C n E h)
  | .rn1 a, ctx, _, e, g, X, C, n, E, h, tg, _ => by
    replace g := optB_ok g
    obtain ⟨v, hx, g⟩ := g
    replace g := optB_ok g
    obtain ⟨w, h1, g⟩ := g
    obtain ⟨p, rfl⟩ := vCl_ok hx
    simp only [Bool.and_eq_true] at g
    obtain ⟨p2, e2⟩ := isNm_ok g.1.1
    rw [e2, l1_ok h1]
    exact mi_rng1 (h.gl g.1.2) (h.mod.blt _ (by decide +kernel)) (ck_ok a ctx _ g.2 X C n E h) (star_of g.2)
  | .enu es, ctx, tg0, e, g, X, C, n, E, h, tg, ht => by
    replace g := optB_ok g
    obtain ⟨ts, ht2, g⟩ := g
    replace g := optB_ok g
    obtain ⟨v, hx, g⟩ := g
    replace g := optB_ok g
    obtain ⟨w, h1, g⟩ := g
    obtain ⟨p, rfl⟩ := vCl_ok hx
    simp only [Bool.and_eq_true] at g
    have g2 := g.2
    obtain ⟨p2, e2⟩ := isNm_ok g.1.1
    rw [l1_ok h1] at g2
    rw [e2, l1_ok h1]
    rcases ht with rfl | ht
    · obtain ⟨k, q, e3⟩ := vTup_ok ht2
      rw [e3]
      cases es with
      | nil => cases g2
      | cons c cs =>
        have g3 : (ck md.toMs fl ctx c w && ckL md.toMs fl ctx cs []) = true := g2
        rw [Bool.and_eq_true] at g3
        exact mi_enu (h.gl g.1.2) (h.mod.blt _ (by decide +kernel)) (ckL_ok (.cons c cs) ctx _ g2 X C n E h) (star_of g3.1)
    · rw [ht] at ht2; cases ht2
  | .zip es, ctx, tg0, e, g, X, C, n, E, h, tg, ht => by
    replace g := optB_ok g
    obtain ⟨ts, ht2, g⟩ := g
    replace g := optB_ok g
    obtain ⟨v, hx, g⟩ := g
    replace g := optB_ok g
    obtain ⟨w, h1, g⟩ := g
    obtain ⟨p, rfl⟩ := vCl_ok hx
    simp only [Bool.and_eq_true] at g
    have g2 := g.2
    obtain ⟨p2, e2⟩ := isNm_ok g.1.1
    rw [l2_ok h1] at g2
    rw [e2, l2_ok h1]
    rcases ht with rfl | ht
    · obtain ⟨k, q, e3⟩ := vTup_ok ht2
      rw [e3]
      cases es with
      | nil => cases g2
      | cons c cs =>
        have g3 : (ck md.toMs fl ctx c w.1 && ckL md.toMs fl ctx cs [w.2]) = true := g2
        rw [Bool.and_eq_true] at g3
        exact mi_zip (h.gl g.1.2) (h.mod.blt _ (by decide +kernel)) (ckL_ok (.cons c cs) ctx _ g2 X C n E h) (star_of g3.1) (plain_of g3.2)
    · rw [ht] at ht2; cases ht2
theorem ckC_ok {md : Md} {fl : List (Str × Str)} : ∀ (cond : CoL) (ctx : Ctx) (ifs : List Expr), ckC md.toMs fl ctx cond ifs = true → ∀ (X : Cx) (C : Kls) (n : Nat) (E : XK), Xo X C md fl n ctx E → PTs X ifs (lifT X.K C (WE' E) (denC md cond))
  | .nil, ctx, ifs, g, X, C, n, E, h => by
    rw [List.isEmpty_iff.mp g]
    exact ⟨fun pins s σ H Q I ⟨F, φ, G, st, R, o⟩ => pts_nil.run pins s σ H Q I (o F φ H (Same.refl F) (List.prefix_refl φ) R)⟩
  | .cons c .nil, ctx, [e], g, X, C, n, E, h => pts_one (ckT_ok c ctx e g X C n E h)
  | .cons _ (.cons _ _), _, _, g, _, _, _, _, _ => by cases g
  | .cons _ .nil, _, [], g, _, _, _, _, _ => by cases g
  | .cons _ .nil, _, _ :: _ :: _, g, _, _, _, _, _ => by cases g
theorem ckP_ok {md : Md} {fl : List (Str × Str)} : ∀ (lo : CoL) (ctx : Ctx) (e : Option Expr), ckL md.toMs fl ctx lo e.toList = true → ∀ (X : Cx) (C : Kls) (n : Nat) (E : XK), Xo X C md fl n ctx E → ∃ t, PrtOk X C (WE' E) e t (denL md lo).head?
  | .nil, ctx, e, g, X, C, n, E, h => by
    cases e with
    | none => exact ⟨_, prt_none⟩
    | some e => cases g
  | .cons c cs, ctx, e, g, X, C, n, E, h => by
    cases e with
    | none => cases g
    | some e =>
      have g : (ck md.toMs fl ctx c e && ckL md.toMs fl ctx cs []) = true := g
      rw [Bool.and_eq_true] at g
      exact ⟨_, prt_some (ck_ok c ctx e g.1 X C n E h)⟩
end
end Gq

namespace Gq
open PySem PySem.Spec L2

def vAsg : Stmt → Option (Expr × Expr × Nat) | .Assign [t] v p => some (t, v, p.line) | _ => none
def vExp : Stmt → Option Expr | .Expr e _ => some e | _ => none
def vRet : Stmt → Option (Option Expr) | .Return e _ => some e | _ => none
def vIf : Stmt → Option (Expr × List Stmt × List Stmt) | .If t a b _ => some (t, a, b) | _ => none
def vFor : Stmt → Option (Expr × Expr × List Stmt) | .For t i b [] _ => some (t, i, b) | _ => none
def vWhl : Stmt → Option (Expr × List Stmt) | .While t b [] _ => some (t, b) | _ => none
section
variable {st : Stmt}
theorem vAsg_ok {x} (h : vAsg st = some x) : ∃ p, st = .Assign [x.1] x.2.1 p := by
  unfold vAsg at h
  split at h
  · cases h; exact ⟨_, rfl⟩
  · cases h
theorem vExp_ok {x} (h : vExp st = some x) : ∃ p, st = .Expr x p := by cases st <;> cases h; exact ⟨_, rfl⟩
theorem vRet_ok {x} (h : vRet st = some x) : ∃ p, st = .Return x p := by cases st <;> cases h; exact ⟨_, rfl⟩
theorem vIf_ok {x} (h : vIf st = some x) : ∃ p, st = .If x.1 x.2.1 x.2.2 p := by cases st <;> cases h; exact ⟨_, rfl⟩
theorem vFor_ok {x} (h : vFor st = some x) : ∃ p, st = .For x.1 x.2.1 x.2.2 [] p := by
  unfold vFor at h
  split at h
  · cases h; exact ⟨_, rfl⟩
  · cases h
theorem vWhl_ok {x} (h : vWhl st = some x) : ∃ p, st = .While x.1 x.2 [] p := by
  unfold vWhl at h
  split at h
  · cases h; exact ⟨_, rfl⟩
  · cases h
end
def fnK (sc : Scope) : Bool := (if sc.kind.isAnnotationScope then ScopeKind.function else sc.kind) == .function
def lcSc : Expr → Option Scope
  | .ListComp _ _ s _ => some s | .SetComp _ _ s _ => some s | .DictComp _ _ _ s _ => some s
  | _ => none
def swOf (sc : Scope) (t v : Expr) : Bool := match lcSc v with
  | some s => (match t with
    | .Name y py => fnK sc && sc.names.lookup y == some .local && py.line == v.pos.line && !(s.names.any fun (n, k) => n == y && (k == .local || k == .cell))
    | _ => false)
  | none => false
theorem swOf_ok {t v : Expr} {line : Nat} {env : Env} {b : Bool} (h : swOf env.scope t v = b) : swapsWith v (some t) line env = pure b := by
  subst h
  unfold swapsWith swOf lcSc
  cases v <;> first | rfl | (cases t <;> rfl)
theorem swNone {v : Expr} {line : Nat} {env : Env} (h : notLC v = true) : swapsWith v none line env = pure false := by
  cases v <;> first | rfl | cases h
def isCom : Co → Bool | .com .. => true | .co2 .. => true | _ => false
def notTup : Expr → Bool | .Tuple _ _ _ => false | _ => true
theorem noSwap {t v : Expr} {env : Env} (h : notTup v = true) : swappedStores [t] v env = pure none := by
  cases v <;> first | (cases h; done) | (cases t <;> rfl)
theorem filterMap_lt {α β : Type} (f : α → Option β) : ∀ l : List α, (∃ a ∈ l, f a = none) → (l.filterMap f).length < l.length
  | [], ⟨_, h, _⟩ => by cases h
  | a :: l, ⟨b, h, e⟩ => by
    rcases List.mem_cons.mp h with rfl | h
    · rw [List.filterMap_cons_none e]
      have := List.length_filterMap_le f l
      simp only [List.length_cons]
      omega
    · have ih := filterMap_lt f l ⟨b, h, e⟩
      have h1 : ((a :: l).filterMap f).length ≤ (l.filterMap f).length + 1 := by
        rw [List.filterMap_cons]
        split <;> simp
      simp only [List.length_cons]
      omega
theorem noSwapC {ts vs : List Expr} {kt k2 : Nat} {pt pt2 : Pos} {env : Env} (h : ts.any (fun e => optB (vName e) fun x => !Gq.isLoc env.scope x) = true) : swappedStores [.Tuple ts kt pt] (.Tuple vs k2 pt2) env = pure none := by
  unfold swappedStores
  dsimp only
  split
  · rfl
  split
  · rfl
  rw [if_pos]
  rw [Bool.or_eq_true]
  left
  rw [bne_iff_ne]
  refine Nat.ne_of_lt (filterMap_lt _ ts ?_)
  obtain ⟨e, he, hx⟩ := List.any_eq_true.mp h
  obtain ⟨x, hn, hq⟩ := optB_ok hx
  clear hx
  obtain ⟨p, rfl⟩ := vName_ok hn
  refine ⟨_, he, ?_⟩
  have hk : (env.kindOf x == some NameKind.local) = false := by
    unfold Gq.isLoc at hq
    unfold Env.kindOf
    cases q : env.scope.names.lookup x with
    | none => rfl
    | some k => rw [q] at hq; cases k <;> first | rfl | cases hq
  simp [hk]
theorem noSwapS {o k v : Expr} {p : Pos} {env : Env} : swappedStores [.Subscript o k p] v env = pure none := by
  cases v <;> rfl
theorem swTup {ts : List Expr} {k : Nat} {p : Pos} {v : Expr} {line : Nat} {env : Env} : swapsWith v (some (.Tuple ts k p)) line env = pure false :=
  swOf_ok (by unfold swOf; cases lcSc v <;> rfl)
theorem swSub {o k : Expr} {p : Pos} {v : Expr} {line : Nat} {env : Env} : swapsWith v (some (.Subscript o k p)) line env = pure false :=
  swOf_ok (by unfold swOf; cases lcSc v <;> rfl)
theorem swAtt {o : Expr} {f : Str} {p : Pos} {v : Expr} {line : Nat} {env : Env} : swapsWith v (some (.Attribute o f p)) line env = pure false :=
  swOf_ok (by unfold swOf; cases lcSc v <;> rfl)
theorem asgSub {o i : Expr} {p : Pos} {env : Env} (h : ixOk i = true) : ∀ v, assign (.Subscript o i p) env v = (do
      let ov ← holding [v] (eval o env)
      let iv ← holding [v, ov] (eval i env)
      standAt p
      holding [v, ov, iv] (setItem ov iv v)
      release [v, ov, iv] []) := by
  intro v
  cases i <;> first | rfl | (cases h; done)
mutual
def ckS (md : Ms) (fl : List (Str × Str)) (ctx : Ctx) : So → Stmt → Bool
  | .asg i c, st => optB (vAsg st) fun v => nmB ctx i v.1 && ck md fl ctx c v.2.1 && (!swOf ctx.sc v.1 v.2.1 || isCom c)
  | .unp ts c, st => optB (vAsg st) fun v => optB (vTup v.1) fun es => decide (es.length = ts.length) && ((ts.zip es).all fun p => nmB ctx p.1 p.2) && ck md fl ctx c v.2.1 && (notTup v.2.1 || es.any fun e => optB (vName e) fun x => !isLoc ctx.sc x)
  | .sto i k c, st => optB (vAsg st) fun v => optB (vSub v.1) fun w => ixOk w.2 && varB ctx i w.1 && ck md fl ctx k w.2 && ck md fl ctx c v.2.1
  | .sfl c i f e, st => optB (vAsg st) fun v => optB (vAtt v.1) fun w => (w.2 == f) && fl.contains (c, f) && varB ctx i w.1 && ck md fl ctx e v.2.1
  | .par i j es, st => optB (vAsg st) fun v => optB (vTup v.1) fun ts => optB (l2 ts) fun t => optB (vTup v.2.1) fun vs => optB (l2 vs) fun w => optB (vName t.1) fun x => optB (vName t.2) fun y =>
      decide (ctx.N[i]? = some x) && decide (ctx.N[j]? = some y) && decide (i ≠ j) && isLoc ctx.sc x && isLoc ctx.sc y && fnK ctx.sc && decide (x ≠ y) && decide (t.2.pos.line = t.1.pos.line) && noStar w.1 && noStar w.2 && !([w.1, w.2].all (foldedForSure 8)) && !([w.1, w.2].all (constantsAlone 8)) && ckL md fl ctx es [w.1, w.2]
  | .exp c, st => optB (vExp st) fun e => ck md fl ctx c e && notLC e
  | .ret c, st => optB (vRet st) fun o => optB o fun e => ck md fl ctx c e
  | .mov i, st => optB (vRet st) fun o => optB o fun e => varB ctx i e
  | .retN, st => optB (vRet st) fun o => o.isNone
  | .iff t a b, st => optB (vIf st) fun v => ck md fl ctx t v.1 && ckSs md fl ctx a v.2.1 && ckSs md fl ctx b v.2.2
  | .lop tg it body, st => optB (vFor st) fun v => tgB ctx tg v.1 && noSet v.2.1 && ckI md fl ctx it v.1 v.2.1 && ckSs md fl ctx body v.2.2
  | .whl t body, st => optB (vWhl st) fun v => ck md fl ctx t v.1 && ckSs md fl ctx body v.2
  | .pas, st => match st with | .Pass _ => true | _ => false
  | .brk, st => match st with | .Break _ => true | _ => false
  | .cnt, st => match st with | .Continue _ => true | _ => false
  | .nev, _ => true
def ckSs (md : Ms) (fl : List (Str × Str)) (ctx : Ctx) : SoL → List Stmt → Bool
  | .nil, ss => ss.isEmpty
  | .cons s ss, st :: sts => ckS md fl ctx s st && ckSs md fl ctx ss sts
  | .cons _ _, [] => false
end
section
variable {X : Cx} {C : Kls} {md : Md} {fl : List (Str × Str)} {n : Nat} {ctx : Ctx} {E : XK}
theorem com_asg {i : Nat} {tg : Tg} {it : CoI} {cond : CoL} {elt : Co} {own : List (Str × Nat)} {t v : Expr} {p : Pos} (h : Xo X C md fl n ctx E) (g1 : nmB ctx i t = true) (g : ck md.toMs fl ctx (.com tg it cond elt own) v = true) (g2 : swOf ctx.sc t v = true) :
    PS X (.Assign [t] v p) (lifS X.K C (WE' E) (asgS i (den md (.com tg it cond elt own)))) := by
  replace g := optB_ok g
  obtain ⟨w, hx, g⟩ := g
  obtain ⟨q, rfl⟩ := vC1_ok hx
  simp only [Bool.and_eq_true] at g
  obtain ⟨⟨⟨⟨⟨⟨h1, h2⟩, h3⟩, h4⟩, h5⟩, h6⟩, h7⟩ := g
  obtain ⟨y, hy, g1'⟩ := optB_ok g1
  obtain ⟨py, rfl⟩ := vName_ok hy
  simp only [Bool.and_eq_true] at g1'
  have g3 : fnK ctx.sc = true ∧ ctx.sc.names.lookup y = some .local := by
    unfold swOf lcSc at g2
    dsimp only at g2
    simp only [Bool.and_eq_true] at g2
    exact ⟨g2.1.1.1, beq_iff_eq.mp g2.1.1.2⟩
  have hb := fun s H Ca cl fp => h.blk s H w.2.2.2.2 Ca cl fp
  refine ms_asgComp h.calm h.nd (by rw [h.N]; exact of_decide_eq_true g1'.1.1) (by rw [h.sc]; exact g3.2) (swOf_ok (by rw [h.sc]; exact g2)) (ckI_ok it ctx _ _ h5 X C n E h _ (.inl rfl)) (blkOk_by (by rw [h.N, h.sc]; exact h1)) (tgG_ok X.K tg) (fun j hj => ?_)
    (fun s H Ca cl fp => tgB_ok (hb s H Ca cl fp) h3)
    (fun s H Ca cl fp => ckC_ok cond _ _ h6 _ C n _ (hb s H Ca cl fp)) (fun s H Ca cl fp => ck_ok elt _ _ h7 _ C n _ (hb s H Ca cl fp)) (fold_of h4)
  have := List.all_eq_true.mp h2 j hj
  exact mem_of this
theorem com_asg2 {i : Nat} {tg tg1 : Tg} {it it1 : CoI} {elt : Co} {own : List (Str × Nat)} {vs1 : List Nat} {t v : Expr} {p : Pos} (h : Xo X C md fl n ctx E) (g1 : nmB ctx i t = true) (g : ck md.toMs fl ctx (.co2 tg it tg1 it1 elt own vs1) v = true) (g2 : swOf ctx.sc t v = true) :
    PS X (.Assign [t] v p) (lifS X.K C (WE' E) (asgS i (den md (.co2 tg it tg1 it1 elt own vs1)))) := by
  replace g := optB_ok g
  obtain ⟨w, hx, g⟩ := g
  obtain ⟨q, rfl⟩ := vC2_ok hx
  simp only [Bool.and_eq_true] at g
  obtain ⟨⟨⟨⟨⟨⟨⟨⟨⟨⟨h1, h2⟩, h2'⟩, h2''⟩, h3⟩, h3'⟩, h4⟩, h4'⟩, h5⟩, h5'⟩, h7⟩ := g
  obtain ⟨y, hy, g1'⟩ := optB_ok g1
  obtain ⟨py, rfl⟩ := vName_ok hy
  simp only [Bool.and_eq_true] at g1'
  have g3 : fnK ctx.sc = true ∧ ctx.sc.names.lookup y = some .local := by
    unfold swOf lcSc at g2
    dsimp only at g2
    simp only [Bool.and_eq_true] at g2
    exact ⟨g2.1.1.1, beq_iff_eq.mp g2.1.1.2⟩
  have hb := fun s H Ca cl fp => h.blk s H w.2.2.2.2.2 Ca cl fp
  refine ms_asgComp2 h.calm h.nd (by rw [h.N]; exact of_decide_eq_true g1'.1.1) (by rw [h.sc]; exact g3.2) (swOf_ok (by rw [h.sc]; exact g2)) (ckI_ok it ctx _ _ h5 X C n E h _ (.inl rfl)) (blkOk_by (by rw [h.N, h.sc]; exact h1)) (tgG_ok X.K tg) (fun j hj => ?_) (tgG_ok X.K tg1) (fun j hj => ?_) (fun j hj => ?_)
    (fun s H Ca cl fp => tgB_ok (hb s H Ca cl fp) h3)
    (fun s H Ca cl fp => pts_nilL) (fun s H Ca cl fp => ckI_ok it1 _ _ _ h5' _ C n _ (hb s H Ca cl fp) _ (.inl rfl)) (fun s H Ca cl fp => tgB_ok (hb s H Ca cl fp) h3') (fun s H Ca cl fp => ck_ok elt _ _ h7 _ C n _ (hb s H Ca cl fp)) (fold_of h4) (fun env => fold_of h4')
  · have := List.all_eq_true.mp h2 j hj
    exact mem_of this
  · have := List.all_eq_true.mp h2' j hj
    exact mem_of this
  · have := List.all_eq_true.mp h2'' j hj
    exact mem_of this
mutual
theorem ckS_ok : ∀ (c : So) (st : Stmt), ckS md.toMs fl ctx c st = true → Xo X C md fl n ctx E → PassesOwn (model X.prog X.w) X.A X.env X.xe → PS X st (lifS X.K C (WE' E) (denS md c))
  | .asg i c, st, g, h, hp => by
    replace g := optB_ok g
    obtain ⟨v, hx, g⟩ := g
    obtain ⟨p, rfl⟩ := vAsg_ok hx
    rw [Bool.and_eq_true, Bool.and_eq_true] at g
    obtain ⟨⟨g1, g2⟩, g3⟩ := g
    by_cases hs : swOf ctx.sc v.1 v.2.1 = true
    · rw [hs] at g3
      cases c <;> first | cases g3 | skip
      · exact com_asg h g1 g2 hs
      · exact com_asg2 h g1 g2 hs
    · have hs := Bool.eq_false_iff.mpr hs
      have he := ck_ok c ctx _ g2 X C n E h
      obtain ⟨t, e, l⟩ := v
      obtain ⟨y, hy, g1'⟩ := optB_ok g1
      obtain ⟨py, hq⟩ := vName_ok hy
      dsimp only at hq he hs ⊢
      subst hq
      simp only [Bool.and_eq_true, Bool.or_eq_true] at g1'
      exact ms_asg h.nd (by rw [h.N]; exact of_decide_eq_true g1'.1.1) (h.loc g1'.1.2) he (swOf_ok (by rw [h.sc]; exact hs)) (g1'.2.elim (fun z => .inl (by rw [h.fn]; exact z)) fun z => .inr (h.isLoc z))
  | .unp ts c, st, g, h, hp => by
    replace g := optB_ok g
    obtain ⟨v, hx, g⟩ := g
    replace g := optB_ok g
    obtain ⟨es, he, g⟩ := g
    obtain ⟨p, rfl⟩ := vAsg_ok hx
    have he' := he
    obtain ⟨k, q, e2⟩ := vTup_ok he
    rw [Bool.and_eq_true, Bool.and_eq_true] at g
    obtain ⟨⟨g1, g2⟩, g3⟩ := g
    have hg : tgB ctx (.tp ts) v.1 = true := by
      show optB (vTup v.1) _ = true
      rw [he']
      exact g1
    have z := tgB_ok (X := X) (C := C) h hg
    rw [e2] at z ⊢
    exact ms_unp (tgG_ok X.K (.tp ts)) z (ck_ok c ctx _ g2 X C n E h) (swTup (env := X.env) (line := p.line) (p := q) (k := k) (ts := es)) (by
      rcases Bool.or_eq_true _ _ ▸ g3 with g3 | g3
      · exact noSwap g3
      · by_cases hn : notTup v.2.1 = true
        · exact noSwap hn
        · obtain ⟨t, w, l⟩ := v
          cases w <;> first | exact absurd rfl hn | exact noSwapC (by rw [h.sc]; exact g3))
  | .sto i k c, st, g, h, hp => by
    replace g := optB_ok g
    obtain ⟨v, hx, g⟩ := g
    replace g := optB_ok g
    obtain ⟨w, hw, g⟩ := g
    obtain ⟨p, rfl⟩ := vAsg_ok hx
    obtain ⟨q, e2⟩ := vSub_ok hw
    simp only [Bool.and_eq_true] at g
    obtain ⟨⟨⟨g1, g2⟩, g3⟩, g4⟩ := g
    rw [e2]
    exact ms_sto (pg_sub (var_of h g2).1 (ck_ok k ctx _ g3 X C n E h) set_list (asgSub g1)) (ck_ok c ctx _ g4 X C n E h) (swSub (env := X.env) (line := p.line) (p := q) (o := w.1) (k := w.2)) noSwapS
  | .sfl c i f e, st, g, h, hp => by
    replace g := optB_ok g
    obtain ⟨v, hx, g⟩ := g
    replace g := optB_ok g
    obtain ⟨w, hw, g⟩ := g
    obtain ⟨p, rfl⟩ := vAsg_ok hx
    obtain ⟨q, e2⟩ := vAtt_ok hw
    simp only [Bool.and_eq_true] at g
    obtain ⟨⟨⟨g1, g2⟩, g3⟩, g4⟩ := g
    rw [e2, beq_iff_eq.mp g1]
    exact ms_sfld (fun k hk => h.mod.fld (c, f) (mem_of g2) k hk) (var_of h g3).1 (ck_ok e ctx _ g4 X C n E h) swAtt
  | .par i j es, st, g, h, hp => by
    replace g := optB_ok g
    obtain ⟨v, hx, g⟩ := g
    replace g := optB_ok g
    obtain ⟨ts, h1, g⟩ := g
    replace g := optB_ok g
    obtain ⟨t, h2, g⟩ := g
    replace g := optB_ok g
    obtain ⟨vs, h3, g⟩ := g
    replace g := optB_ok g
    obtain ⟨w, h4, g⟩ := g
    replace g := optB_ok g
    obtain ⟨x, h5, g⟩ := g
    replace g := optB_ok g
    obtain ⟨y, h6, g⟩ := g
    obtain ⟨p, rfl⟩ := vAsg_ok hx
    obtain ⟨k1, q1, e1⟩ := vTup_ok h1
    obtain ⟨k3, q3, e3⟩ := vTup_ok h3
    obtain ⟨px, e5⟩ := vName_ok h5
    obtain ⟨py, e6⟩ := vName_ok h6
    simp only [Bool.and_eq_true, decide_eq_true_eq, Bool.not_eq_true'] at g
    obtain ⟨⟨⟨⟨⟨⟨⟨⟨⟨⟨⟨⟨g1, g2⟩, g3⟩, g4⟩, g5⟩, g6⟩, g7⟩, g8⟩, g9⟩, g10⟩, g11⟩, g12⟩, g13⟩ := g
    rw [e1, e3, l2_ok h2, l2_ok h4]
    rw [e5, e6] at g8 ⊢
    have hbk : X.env.blockKind = .function := by
      unfold Env.blockKind
      rw [h.sc]
      unfold fnK at g6
      exact beq_iff_eq.mp g6
    exact ms_par h.calm h.nd (by rw [h.N]; exact g1) (by rw [h.N]; exact g2) g3 (h.isLoc g4) (h.isLoc g5) (ckL_ok es ctx _ g13 X C n E h) (swPar hbk (h.isLoc g4) (h.isLoc g5) g8 g7 g9 g10 g11 g12)
  | .exp c, st, g, h, hp => by
    replace g := optB_ok g
    obtain ⟨e, hx, g⟩ := g
    obtain ⟨p, rfl⟩ := vExp_ok hx
    rw [Bool.and_eq_true] at g
    exact ms_expr (ck_ok c ctx _ g.1 X C n E h) (swNone g.2)
  | .ret c, st, g, h, hp => by
    replace g := optB_ok g
    obtain ⟨o, hx, g⟩ := g
    replace g := optB_ok g
    obtain ⟨e, rfl, g⟩ := g
    obtain ⟨p, rfl⟩ := vRet_ok hx
    exact ms_ret (ck_ok c ctx _ g X C n E h)
  | .mov i, st, g, h, hp => by
    replace g := optB_ok g
    obtain ⟨o, hx, g⟩ := g
    replace g := optB_ok g
    obtain ⟨e, rfl, g⟩ := g
    obtain ⟨p, rfl⟩ := vRet_ok hx
    exact ms_ret (me_move (var_of h g).1)
  | .retN, st, g, h, hp => by
    replace g := optB_ok g
    obtain ⟨o, hx, g⟩ := g
    obtain ⟨p, rfl⟩ := vRet_ok hx
    rw [Option.isNone_iff_eq_none.mp g]
    exact ms_retN
  | .iff t a b, st, g, h, hp => by
    replace g := optB_ok g
    obtain ⟨v, hx, g⟩ := g
    obtain ⟨p, rfl⟩ := vIf_ok hx
    rw [Bool.and_eq_true, Bool.and_eq_true] at g
    exact ms_if (ckT_ok t ctx _ g.1.1 X C n E h) (ckSs_ok a _ g.1.2 h hp) (ckSs_ok b _ g.2 h hp)
  | .lop tg it body, st, g, h, hp => by
    replace g := optB_ok g
    obtain ⟨v, hx, g⟩ := g
    obtain ⟨p, rfl⟩ := vFor_ok hx
    simp only [Bool.and_eq_true] at g
    exact ms_for hp h.calm (ckI_ok it ctx _ _ g.1.2 X C n E h _ (.inl rfl)) (tgG_ok X.K tg) (tgB_ok h g.1.1.1) (ckSs_ok body _ g.2 h hp) (fold_of g.1.1.2)
  | .whl t body, st, g, h, hp => by
    replace g := optB_ok g
    obtain ⟨v, hx, g⟩ := g
    obtain ⟨p, rfl⟩ := vWhl_ok hx
    rw [Bool.and_eq_true] at g
    exact ms_while hp (ckT_ok t ctx _ g.1 X C n E h) (ckSs_ok body _ g.2 h hp)
  | .pas, st, g, h, hp => by
    cases st <;> first | cases g | skip
    exact ms_pass
  | .brk, st, g, h, hp => by
    cases st <;> first | cases g | skip
    exact ms_break
  | .cnt, st, g, h, hp => by
    cases st <;> first | cases g | skip
    exact ms_cont
  | .nev, st, g, h, hp => ms_never
theorem ckSs_ok : ∀ (c : SoL) (sts : List Stmt), ckSs md.toMs fl ctx c sts = true → Xo X C md fl n ctx E → PassesOwn (model X.prog X.w) X.A X.env X.xe → PSs X sts (lifS X.K C (WE' E) (denSs md c))
  | .nil, sts, g, h, hp => by
    rw [List.isEmpty_iff.mp g]
    exact mss_nil
  | .cons c cs, st :: sts, g, h, hp => by
    have g : (ckS md.toMs fl ctx c st && ckSs md.toMs fl ctx cs sts) = true := g
    rw [Bool.and_eq_true] at g
    exact mss_cons (ckS_ok c st g.1 h hp) (ckSs_ok cs sts g.2 h hp)
  | .cons c cs, [], g, h, hp => by cases g
end
end
end Gq

namespace Gq
open PySem PySem.Spec L2

section
variable {K : PySem.W.Frag} {C : Kls} {F : Hp} {φ : List Addr} {G : Hp} {H : Hp} {m : List Cell}
theorem ArgsOk.at {vs : List V} {rs : List Vl} (h : ArgsOk K F φ vs rs) : ∀ {i : Nat} {r : Vl}, rs[i]? = some r → ∃ v, vs[i]? = some v ∧ ArgOk K F φ v r := by
  induction h with
  | nil => intro i r e; simp at e
  | cons a t ih =>
    intro i r e
    cases i with
    | zero => simp at e; subst e; exact ⟨_, rfl, a⟩
    | succ i => simp at e; simpa using ih e
theorem start_rl {vs : List V} {args : List Vl} {N : List Str} {d : Df} (h : Ml K C F φ G m H) (a : ArgsOk K F φ vs args) (hl : args.length = d.np) (hN : N.length = d.ns) :
    Rl K C F φ G ⟨args.map argSl ++ List.replicate (d.ns - d.np) .un, m⟩ (L2.start N vs) H := by
  have key : ∀ (i : Nat) (sl : Sl), (args.map argSl ++ List.replicate (d.ns - d.np) Sl.un)[i]? = some sl → sl = .un ∨ ∃ r v, sl = argSl r ∧ (L2.start N vs)[i]? = some (some v) ∧ ArgOk K F φ v r := fun i sl e => by
    by_cases hi : i < args.length
    · rw [List.getElem?_append_left (by simpa using hi), List.getElem?_map, Option.map_eq_some_iff] at e
      obtain ⟨r, e, rfl⟩ := e
      obtain ⟨v, hv, o⟩ := a.at e
      refine .inr ⟨r, v, rfl, ?_, o⟩
      unfold L2.start
      rw [List.getElem?_append_left (by rw [List.length_map, a.len]; exact hi), List.getElem?_map, hv]
      rfl
    · rw [List.getElem?_append_right (by simpa using hi), List.getElem?_replicate] at e
      split at e
      · exact .inl (Option.some.inj e).symm
      · cases e
  have no : ∀ i b, ¬ OwnAt (args.map argSl ++ List.replicate (d.ns - d.np) Sl.un) (L2.start N vs) i b := fun i b ⟨⟨ds, e⟩, _⟩ => by
    rcases key i _ e with z | ⟨r, v, z, _, o⟩
    · cases z
    · cases r with
      | dat _ => cases z
      | fr _ => exact o.elim
      | hnd _ => cases z
  refine ⟨h, ?_, fun i sl e => ?_, fun i j b o => absurd o (no i b)⟩
  · show (L2.start N vs).length = (args.map argSl ++ List.replicate (d.ns - d.np) Sl.un).length
    unfold L2.start
    have := a.len
    simp only [List.length_append, List.length_map, List.length_replicate]
    omega
  · rcases key i sl e with rfl | ⟨r, v, rfl, h1, o⟩
    · trivial
    · rw [h1]
      cases r with
      | dat _ => exact ⟨v, rfl, o⟩
      | fr _ => exact o.elim
      | hnd _ => obtain ⟨b, rfl, hb⟩ := o; exact ⟨b, rfl, hb⟩
theorem body_of {vs : List V} {N : List Str} {d : Df} {md : Md} {Q : VK} {E : XK} (hN : N.length = d.ns) (h : spE K C (runD md d) vs H Q E) :
    lifS K C (WE' E) (denSs md d.body) { nx := fun _ H' => Q .non H', rt := Q } (L2.start N vs) H := by
  obtain ⟨F, φ, G, args, m, h1, h2, o⟩ := h
  unfold runD at o
  split at o
  · rename_i hl
    refine ⟨F, φ, G, _, start_rl h1 h2 hl hN, ?_⟩
    cases e : denSs md d.body ⟨args.map argSl ++ List.replicate (d.ns - d.np) .un, m⟩ with
    | ok r s =>
      rw [e] at o
      cases r with
      | nx => exact fun F' φ' H' σ' l1 l2 R => o F' φ' H' .non l1 l2 R.toMl Sh.non
      | ret r => exact fun F' φ' H' v l1 l2 R q => o F' φ' H' v l1 l2 R q
      | brk => exact o.elim
      | ct => exact o.elim
    | exc c fs s => rw [e] at o; exact fun F' φ' H' σ' k d vs l1 l2 R => o F' φ' H' k d vs l1 l2 R.toMl
    | no => rw [e] at o; exact o.elim
  · exact o.elim
theorem sp_len {vs : List V} {d : Df} {md : Md} {Q : VK} {E : XK} (h : spE K C (runD md d) vs H Q E) : vs.length = d.np := by
  obtain ⟨F, φ, G, args, m, h1, h2, o⟩ := h
  unfold runD at o
  split at o
  · rename_i hl
    rw [h2.len, hl]
  · exact o.elim
end
def ctxD (N : List Str) (sc : Scope) (gen : Option Str) : Ctx := ⟨N, sc, fun _ => true, gen⟩
end Gq

namespace Gq
open PySem PySem.Spec L2

theorem fn_okD {X : Cx} {C : Kls} {md : Md} {fl : List (Str × Str)} {n : Nat} {x qual : Str} {params : Arguments} {body : List Stmt} {sc : Scope} {f : Addr} {fd : FuncData} {N ps : List Str} {gen : Option Str} {d : Df} (F : FunD X.K x qual params body sc [] [] f fd) (S : FnScope N ps sc) (hl : ps.length = d.np) (hN : N.length = d.ns)
    (hm : MdOk X C md fl n) (hg : ∀ y, gen = some y → tbK y = true ∧ ∃ c P, fd.code = .ref c ∧ GxR.TabB X.base X.mg c P ∧ C y = some P) (g : ckSs md.toMs fl (ctxD N sc gen) d.body body = true) : FnOk X.prog X.w X.K X.mg X.base (L2.CX X.prog X.w) (n + 5) f fd ps (spE X.K C (runD md d)) := by
  obtain ⟨oc, od, dV, kV, doc, pm, an, cdv, ct, osl, rfl, lk, hcd, _, _⟩ := F.ex
  refine fn_of lk hcd S (fun vs H Q E h => (sp_len h).trans hl.symm) fun A outer s H vs Q E hr h => ⟨_, ckSs_ok (n := n) (ctx := ctxD N sc gen) (C := C) (md := md) (E := E) d.body body g ?_ ?_, body_of hN h⟩
  · refine ⟨hm.tr rfl rfl rfl rfl rfl, rfl, S.nd, rfl, rfl, rfl, hr.mono (by omega), takes_of rfl rfl rfl rfl, fun y hy => ?_⟩
    obtain ⟨h1, c, P, h2, h3, h4⟩ := hg y hy
    exact ⟨h1, hr, c, P, h2, h3, h4⟩
  · exact passes_of rfl
structure Tb extends Ms where
  fnD : List (Str × Df)
  mtD : List ((Str × Str) × Df)
  inD : List (Str × Df)
  wn : Nat
def fnOfD {α : Type} [BEq α] (l : List (α × Df)) (run : Df → Fn) (x : α) : Fn := match l.lookup x with
  | some d => run d
  | none => fun _ _ => .no
def mdOf (T : Tb) : Nat → Md
  | 0 => { toMs := T.toMs, fns := fun _ _ _ => .no, mts := fun _ _ _ _ => .no, ini := fun _ _ _ => .no, wn := T.wn }
  | n + 1 => { toMs := T.toMs, fns := fnOfD T.fnD (runD (mdOf T n)), mts := fun c m => fnOfD T.mtD (runD (mdOf T n)) (c, m), ini := fnOfD T.inD (runD (mdOf T n)), wn := T.wn }
theorem mdOf_ms {T : Tb} : ∀ n, (mdOf T n).toMs = T.toMs
  | 0 => rfl
  | _ + 1 => rfl
structure DfOk (X : Cx) (C : Kls) (T : Ms) (fl : List (Str × Str)) (x qual : Str) (d : Df) (f : Addr) (fd : FuncData) (ps : List Str) : Prop where
  ex : ∃ (N : List Str) (params : Arguments) (body : List Stmt) (sc : Scope) (gen : Option Str), FunD X.K x qual params body sc [] [] f fd ∧ FnScope N ps sc ∧ ps.length = d.np ∧ N.length = d.ns ∧ (∀ y, gen = some y → tbK y = true ∧ ∃ c P, fd.code = .ref c ∧ GxR.TabB X.base X.mg c P ∧ C y = some P) ∧ ckSs T fl (ctxD N sc gen) d.body body = true
  bn : Binds X.K fd ps []
theorem DfOk.kp {X : Cx} {C : Kls} {T : Ms} {fl : List (Str × Str)} {x qual : Str} {d : Df} {f : Addr} {fd : FuncData} {ps : List Str} (h : DfOk X C T fl x qual d f fd ps) : PySem.W.keepIn X.K (.ref f) = true := by
  obtain ⟨N, pa, b, sc, gen, F, _⟩ := h.ex
  exact F.kp
theorem DfOk.ok {X : Cx} {C : Kls} {md : Md} {fl : List (Str × Str)} {n : Nat} {x qual : Str} {d : Df} {f : Addr} {fd : FuncData} {ps : List Str} (h : DfOk X C md.toMs fl x qual d f fd ps) (hm : MdOk X C md fl n) : FnOk X.prog X.w X.K X.mg X.base (L2.CX X.prog X.w) (n + 5) f fd ps (spE X.K C (runD md d)) := by
  obtain ⟨N, pa, b, sc, gen, F, S, h1, h2, h3, g⟩ := h.ex
  exact fn_okD F S h1 h2 hm h3 g
structure TbOk (X : Cx) (C : Kls) (T : Tb) (fl : List (Str × Str)) : Prop where
  con : ∀ (k : Nat) (p : Str × D), T.con[k]? = some p → ∃ v u, X.mg p.1 = some u ∧ RelV v u ∧ ∀ F, Sh X.K F v p.2
  blt : ∀ x ∈ bltNames, X.mg x = none
  fld : ∀ p ∈ fl, ∀ k, C p.1 = some k → Cls X.K k ∧ NoAttr X.K k p.2
  fns : ∀ x ∈ T.fnN, ∃ d f fd ps q, T.fnD.lookup x = some d ∧ X.mg x = some (.ref f) ∧ DfOk X C T.toMs fl x q d f fd ps
  mts : ∀ p ∈ T.mtN, ∃ d, T.mtD.lookup p = some d ∧ ∀ k, C p.1 = some k → ∃ f fd ps q, Cls X.K k ∧ Meth X.K k p.2 f ∧ DfOk X C T.toMs fl p.2 q d f fd ps
  ini : ∀ c ∈ T.inN, ∃ d, T.inD.lookup c = some d ∧ ∃ k f fd ps q, C c = some k ∧ X.mg c = some (.ref k) ∧ Mk X.K k f ∧ DfOk X C T.toMs fl "__init__" q d f fd ps
theorem spE_no {K : PySem.W.Frag} {C : Kls} {vs : List V} {H : Hp} {Q : VK} {E : XK} (h : spE K C (fun _ _ => .no) vs H Q E) : False := by
  obtain ⟨_, _, _, _, _, _, _, o⟩ := h
  exact o
theorem fnNo {X : Cx} {C : Kls} {f : Addr} {fd : FuncData} {ps : List Str} : FnOk X.prog X.w X.K X.mg X.base (L2.CX X.prog X.w) 0 f fd ps (spE X.K C fun _ _ => .no) :=
  ⟨fun _ _ _ _ h => (spE_no h).elim, fun _ _ _ _ _ _ _ _ _ _ _ _ _ h => (spE_no h).elim⟩
theorem TbOk.md {X : Cx} {C : Kls} {T : Tb} {fl : List (Str × Str)} (h : TbOk X C T fl) : ∀ n, MdOk X C (mdOf T n) fl (5 * n)
  | 0 => by
    refine ⟨h.con, h.blt, fun x hx => ⟨?_⟩, fun p hp => ⟨fun k hk => ?_⟩, fun c hc => ⟨?_⟩, h.fld⟩
    · obtain ⟨d, f, fd, ps, q, _, h1, h2⟩ := h.fns x hx
      exact ⟨f, fd, ps, fnNo, h1, h2.kp, h2.bn⟩
    · obtain ⟨d, _, z⟩ := h.mts p hp
      obtain ⟨f, fd, ps, q, h1, h2, h3⟩ := z k hk
      exact ⟨f, fd, ps, h1, h2, fnNo, h3.bn⟩
    · obtain ⟨d, _, k, f, fd, ps, q, h1, h2, h3, h4⟩ := h.ini c hc
      exact ⟨k, f, fd, ps, h1, h2, h3, fnNo, h4.bn⟩
  | n + 1 => by
    have ih := TbOk.md h n
    have e := mdOf_ms (T := T) n
    refine ⟨h.con, h.blt, fun x hx => ⟨?_⟩, fun p hp => ⟨fun k hk => ?_⟩, fun c hc => ⟨?_⟩, h.fld⟩
    · obtain ⟨d, f, fd, ps, q, h0, h1, h2⟩ := h.fns x hx
      refine ⟨f, fd, ps, ?_, h1, h2.kp, h2.bn⟩
      have z : (mdOf T (n + 1)).fns x = runD (mdOf T n) d := by
        show fnOfD T.fnD (runD (mdOf T n)) x = _
        unfold fnOfD
        rw [h0]
      rw [z]
      rw [← e] at h2
      exact h2.ok ih
    · obtain ⟨d, h0, z⟩ := h.mts p hp
      obtain ⟨f, fd, ps, q, h1, h2, h3⟩ := z k hk
      refine ⟨f, fd, ps, h1, h2, ?_, h3.bn⟩
      have z : (mdOf T (n + 1)).mts p.1 p.2 = runD (mdOf T n) d := by
        show fnOfD T.mtD (runD (mdOf T n)) (p.1, p.2) = _
        unfold fnOfD
        rw [h0]
      rw [z]
      rw [← e] at h3
      exact h3.ok ih
    · obtain ⟨d, h0, k, f, fd, ps, q, h1, h2, h3, h4⟩ := h.ini c hc
      refine ⟨k, f, fd, ps, h1, h2, h3, ?_, h4.bn⟩
      have z : (mdOf T (n + 1)).ini c = runD (mdOf T n) d := by
        show fnOfD T.inD (runD (mdOf T n)) c = _
        unfold fnOfD
        rw [h0]
      rw [z]
      rw [← e] at h4
      exact h4.ok ih
end Gq

namespace Gq
open PySem PySem.Spec L2

mutual
def shB (K : PySem.W.Frag) : D → Value → Bool
  | .none, .none => true
  | .bool b, .bool c => b == c
  | .int i, .int j _ => decide (i = j)
  | .str x, .str y _ => decide (x = y) && PyData.strOk x
  | .tuple ds, .ref a => match K.lookup a with
    | some ⟨.type c, _, .seq its _, _⟩ => decide (c = "tuple") && (decide (its.size ≤ sizeLine) && shAB K ds its.toList)
    | _ => false
  | _, _ => false
def shAB (K : PySem.W.Frag) : List D → List Value → Bool
  | [], [] => true
  | d :: ds, u :: us => shB K d u && shAB K ds us
  | _, _ => false
end
mutual
theorem shB_ok {K : PySem.W.Frag} : ∀ (d : D) (u : Value), shB K d u = true → ∃ v, RelV v u ∧ ∀ F, Sh K F v d
  | .none, u, h => by
    cases u with
    | none => exact ⟨.non, rfl, fun _ => Sh.non⟩
    | _ => cases h
  | .bool b, u, h => by
    cases u with
    | bool c =>
      have e : b = c := by simpa [shB] using h
      exact ⟨.bl b, by rw [e]; rfl, fun _ => Sh.bl⟩
    | _ => cases h
  | .int i, u, h => by
    cases u with
    | int j t =>
      have e : i = j := by simpa [shB] using h
      exact ⟨.int i, ⟨t, by rw [e]⟩, fun _ => Sh.int⟩
    | _ => cases h
  | .str x, u, h => by
    cases u with
    | str y t =>
      have e : x = y ∧ PyData.strOk x = true := by simpa [shB] using h
      exact ⟨.str x, ⟨t, by rw [e.1]⟩, fun _ => Sh.str e.2⟩
    | _ => cases h
  | .tuple ds, u, h => by
    cases u with
    | ref a =>
      unfold shB at h
      cases q : K.lookup a with
      | none => rw [q] at h; cases h
      | some o =>
        obtain ⟨oc, od, dt, osl⟩ := o
        rw [q] at h
        cases oc with
        | type c =>
          cases dt with
          | seq its n =>
            obtain ⟨h1, h2⟩ := He.ba (show (decide (c = "tuple") && (decide (its.size ≤ sizeLine) && shAB K ds its.toList)) = true from h)
            obtain ⟨h3, h4⟩ := He.ba h2
            obtain ⟨vs, r, t⟩ := shAB_ok ds its.toList h4
            exact ⟨.ref a, rfl, fun F => Sh.tup (.inr ⟨_, its, n, q, congrArg Value.type (of_decide_eq_true h1), rfl, of_decide_eq_true h3, r⟩) (t F)⟩
          | _ => cases h
        | _ => cases dt <;> cases h
    | _ => cases h
  | .list _, u, h => by cases u <;> cases h
  | .dict _, u, h => by cases u <;> cases h
theorem shAB_ok {K : PySem.W.Frag} : ∀ (ds : List D) (us : List Value), shAB K ds us = true → ∃ vs, Vals vs us ∧ ∀ F, ShA K F vs ds
  | [], [], _ => ⟨[], .nil, fun _ => ShA.nil⟩
  | d :: ds, u :: us, h => by
    obtain ⟨h1, h2⟩ := He.ba (show (shB K d u && shAB K ds us) = true from h)
    obtain ⟨v, r, t⟩ := shB_ok d u h1
    obtain ⟨vs, r2, t2⟩ := shAB_ok ds us h2
    exact ⟨v :: vs, .cons r r2, fun F => ShA.cons (t F) (t2 F)⟩
  | [], _ :: _, h => by cases h
  | _ :: _, [], h => by cases h
end

structure Dt where
  at_ : Str × Option Str
  qual : Str
  st : Stmt
  N : List Str
  gen : Bool
  d : Df
namespace Dt
def nm (t : Dt) : Str := t.at_.2.getD t.at_.1
def key (t : Dt) : Str := ⟨#[64] ++ t.at_.1.cps⟩
def dd (t : Dt) : He.DefD := ⟨t.at_, t.nm, t.qual, defArgs t.st, defBody t.st, defScope t.st, [], []⟩
def ps (t : Dt) : List Str := t.N.take t.d.np
def gk (t : Dt) : Option Str := if t.gen then some t.key else none
def ok (T : Ms) (fl : List (Str × Str)) (t : Dt) : Bool := C8.scC t.N t.ps (defScope t.st) && decide (t.ps.length = t.d.np) && decide (t.N.length = t.d.ns) && ckSs T fl (ctxD t.N (defScope t.st) t.gk) t.d.body (defBody t.st) && (!t.gen || tbK t.key)
def Bn (t : Dt) : Prop := ∀ (kV doc pm : Value) (an : Option Addr) (cdv ct : Value) (us : List Value), us.length = t.ps.length → bindArgs (PySem.W.fnOf t.nm t.qual (defArgs t.st) (defBody t.st) (defScope t.st) .none kV doc pm an cdv ct) ⟨us, []⟩ = pure (t.ps.zip us)
end Dt
structure Pg where
  con : List (Str × D)
  cls : List Str
  fl : List (Str × Str)
  fns : List Dt
  mts : List Dt
  ini : List Dt
  wn : Nat
namespace Pg
def ms (p : Pg) : Ms := { con := p.con, fnN := p.fns.map (·.at_.1), mtN := p.mts.map fun t => (t.at_.1, t.nm), inN := p.ini.map (·.at_.1) }
def tb (p : Pg) : Tb := { toMs := p.ms, fnD := p.fns.map fun t => (t.at_.1, t.d), mtD := p.mts.map fun t => ((t.at_.1, t.nm), t.d), inD := p.ini.map fun t => (t.at_.1, t.d), wn := p.wn }
def all (p : Pg) : List Dt := p.fns ++ (p.mts ++ p.ini)
def fa (p : Pg) : List He.Fa := p.fns.map (fun t => .glo t.at_.1) ++ (bltNames.map .free ++ (p.cls.flatMap (fun c => [.glo c, .cls c]) ++ (p.fl.map (fun q => .noat q.1 q.2) ++ (p.mts.map (fun t => .meth t.at_.1 t.nm) ++ p.ini.map fun t => .mkr t.at_.1))))
def fn (p : Pg) : List He.DefD := p.all.map Dt.dd
def tf (p : Pg) : List He.Defn := (p.fns.filter (·.gen)).map (·.at_)
def ex (p : Pg) (K : PySem.W.Frag) : Bool := p.con.all fun q => match PySem.W.nsIn K mainGlobals q.1 with
  | some (some u) => shB K q.2 u
  | _ => false
def C (p : Pg) (K : PySem.W.Frag) : Kls := fun y => if tbK y then (match p.fns.find? fun t => t.gen && t.key == y with
  | some t => some (He.cT K t.at_).2
  | none => none) else if p.cls.contains y then some (He.ga K y) else none
def okD (p : Pg) : Bool := p.all.all fun t => t.ok p.ms p.fl
def okS (p : Pg) : Bool := (p.fns.all fun t => t.at_.2.isNone) && (p.mts.all fun t => t.at_.2.isSome && p.cls.contains t.at_.1 && !tbK t.at_.1 && !t.gen) && (p.ini.all fun t => (t.at_.2 == some ("__init__" : Str)) && p.cls.contains t.at_.1 && !tbK t.at_.1 && !t.gen) && (p.fl.all fun q => p.cls.contains q.1 && !tbK q.1) && (p.fns.all fun t => p.fns.all fun t' => !(t.key == t'.key) || t.at_.1 == t'.at_.1)
end Pg
def bx (P : Program) (w : World) (K : PySem.W.Frag) (mg : Str → Option Value) (base : Heap) : Cx where
  prog := P
  w := w
  K := K
  mg := mg
  base := base
  A := callerA
  N := []
  s_0 := {}
  H_0 := fun _ => none
  env := PyProof.Rows.envOfC "" { kind := .function, names := [], isGenerator := false, isCoroutine := false } 0 0 .none
  outer := []
  stack := []
  ex := []
  fn := fun _ => true
  calm := true
  pn := []
  xe := fun _ _ => False
theorem look_of {α β : Type} [BEq α] [LawfulBEq α] {k : β → α} {v : β → Df} : ∀ {l : List β} {x : α}, x ∈ l.map k → ∃ t ∈ l, (l.map fun t => (k t, v t)).lookup x = some (v t) ∧ k t = x
  | [], _, h => by cases h
  | b :: l, x, h => by
    by_cases e : x = k b
    · exact ⟨b, List.mem_cons_self, by rw [List.map_cons, List.lookup_cons, e, beq_self_eq_true], e.symm⟩
    · rcases List.mem_cons.mp h with h | h
      · exact absurd h e
      · obtain ⟨t, h1, h2, h3⟩ := look_of (v := v) h
        refine ⟨t, List.mem_cons_of_mem _ h1, ?_, h3⟩
        rw [List.map_cons, List.lookup_cons, beq_eq_false_iff_ne.mpr e]
        exact h2
section
variable {p : Pg} {P : Program} {w : World} {K : PySem.W.Frag} {mg : Str → Option Value} {base h : Heap}
theorem dt_ok (c : He.SaysX p.fa p.fn [] p.tf p.ex w h K) (TB : ∀ q ∈ p.tf.map (He.cT K), GxR.TabB base mg q.1 q.2) (hD : p.okD = true) (hS : p.okS = true) (hB : ∀ t ∈ p.all, t.Bn) {t : Dt} (ht : t ∈ p.all) (hg : t.gen = true → t ∈ p.fns) {fd : FuncData} (F : FunD K t.nm t.qual (defArgs t.st) (defBody t.st) (defScope t.st) [] [] (He.fAd K t.at_) fd) :
    DfOk (bx P w K mg base) (p.C K) p.ms p.fl t.nm t.qual t.d (He.fAd K t.at_) fd t.ps := by
  have o := List.all_eq_true.mp hD t ht
  unfold Dt.ok at o
  simp only [Bool.and_eq_true, Bool.or_eq_true, decide_eq_true_eq] at o
  obtain ⟨⟨⟨⟨o1, o2⟩, o3⟩, o4⟩, o5⟩ := o
  have F' : FunD K t.nm t.qual (defArgs t.st) (defBody t.st) (defScope t.st) [] [] (He.fAd K t.at_) fd := F
  refine ⟨⟨t.N, _, _, _, t.gk, F', C8.fnScope_by o1, o2, o3, fun y hy => ?_, o4⟩, FunD.bindsN F' (hB t ht)⟩
  unfold Dt.gk at hy
  split at hy
  · rename_i hgen
    cases hy
    have htb : tbK t.key = true := by
      rcases o5 with o5 | o5
      · rw [hgen] at o5; cases o5
      · exact o5
    have htf := hg hgen
    obtain ⟨oc, od, dV, kV, doc, pm, an, cdv, ct, osl, e, lk, hcd, _⟩ := F'.ex
    obtain ⟨cc, hcc⟩ := He.codeIn_ref hcd
    have e1 : fd.code = .ref cc := by rw [e]; exact hcc
    have e2 := He.codeOf_eq lk e1
    refine ⟨htb, cc, (He.cT K t.at_).2, e1, ?_, ?_⟩
    · have z := TB (He.cT K t.at_) (List.mem_map.mpr ⟨t.at_, List.mem_map.mpr ⟨t, List.mem_filter.mpr ⟨htf, hgen⟩, rfl⟩, rfl⟩)
      have e3 : (He.cT K t.at_).1 = cc := e2
      rw [e3] at z
      exact z
    · unfold Pg.C
      rw [if_pos htb]
      cases q : p.fns.find? fun t' => t'.gen && t'.key == t.key with
      | none =>
        have := List.find?_eq_none.mp q t htf
        rw [hgen] at this
        simp at this
      | some t' =>
        have q1 := List.find?_some q
        have q2 := List.mem_of_find?_eq_some q
        unfold Pg.okS at hS
        simp only [Bool.and_eq_true, List.all_eq_true, Bool.or_eq_true, Bool.not_eq_true', beq_iff_eq] at hS q1
        have s5 := hS.2 t' q2 t htf
        have s1 := hS.1.1.1.1
        have ek : t'.at_.1 = t.at_.1 := by
          rcases s5 with s5 | s5
          · rw [q1.2] at s5; simp at s5
          · exact s5
        have ea : t'.at_ = t.at_ := Prod.ext ek (by rw [Option.isNone_iff_eq_none.mp (s1 t' q2), Option.isNone_iff_eq_none.mp (s1 t htf)])
        show some (He.cT K t'.at_).2 = _
        rw [ea]
  · cases hy
theorem funD_of (c : He.SaysX p.fa p.fn [] p.tf p.ex w h K) {t : Dt} (ht : t ∈ p.all) : ∃ fd, FunD K t.nm t.qual (defArgs t.st) (defBody t.st) (defScope t.st) [] [] (He.fAd K t.at_) fd :=
  He.SaysD.defs c.t.d (d := t.dd) (List.mem_map.mpr ⟨t, ht, rfl⟩)
theorem tbOk (c : He.SaysX p.fa p.fn [] p.tf p.ex w h K) (KX : K.In base) (G : base.Ns mainGlobals mg) (TB : ∀ q ∈ p.tf.map (He.cT K), GxR.TabB base mg q.1 q.2) (hD : p.okD = true) (hS : p.okS = true) (hB : ∀ t ∈ p.all, t.Bn) :
    TbOk (bx P w K mg base) (p.C K) p.tb p.fl := by
  have hS' := hS
  unfold Pg.okS at hS'
  simp only [Bool.and_eq_true, List.all_eq_true, Bool.or_eq_true, Bool.not_eq_true', beq_iff_eq] at hS'
  obtain ⟨⟨⟨⟨s1, s2⟩, s3⟩, s4⟩, s5⟩ := hS'
  have fact : ∀ {f : He.Fa}, f ∈ p.fa → f.ok K = true := fun hf => He.SaysD.facts c.t.d hf
  have mF : ∀ {f : He.Fa}, f ∈ p.fns.map (fun t => He.Fa.glo t.at_.1) → f ∈ p.fa := fun hf => List.mem_append_left _ hf
  have mB : ∀ {f : He.Fa}, f ∈ bltNames.map He.Fa.free → f ∈ p.fa := fun hf => List.mem_append_right _ (List.mem_append_left _ hf)
  have mC : ∀ {f : He.Fa}, f ∈ p.cls.flatMap (fun c => [He.Fa.glo c, .cls c]) → f ∈ p.fa := fun hf => List.mem_append_right _ (List.mem_append_right _ (List.mem_append_left _ hf))
  have mL : ∀ {f : He.Fa}, f ∈ p.fl.map (fun q => He.Fa.noat q.1 q.2) → f ∈ p.fa := fun hf => List.mem_append_right _ (List.mem_append_right _ (List.mem_append_right _ (List.mem_append_left _ hf)))
  have mM : ∀ {f : He.Fa}, f ∈ p.mts.map (fun t => He.Fa.meth t.at_.1 t.nm) → f ∈ p.fa := fun hf => List.mem_append_right _ (List.mem_append_right _ (List.mem_append_right _ (List.mem_append_right _ (List.mem_append_left _ hf))))
  have mI : ∀ {f : He.Fa}, f ∈ p.ini.map (fun t => He.Fa.mkr t.at_.1) → f ∈ p.fa := fun hf => List.mem_append_right _ (List.mem_append_right _ (List.mem_append_right _ (List.mem_append_right _ (List.mem_append_right _ hf))))
  have cls : ∀ x, p.cls.contains x = true → tbK x = false → p.C K x = some (He.ga K x) ∧ Cls K (He.ga K x) ∧ mg x = some (.ref (He.ga K x)) := fun x hx ht => by
    refine ⟨?_, He.cls_ok (fact (mC (List.mem_flatMap.mpr ⟨x, mem_of hx, by simp⟩))), He.glo_ok KX G (fact (mC (List.mem_flatMap.mpr ⟨x, mem_of hx, by simp⟩)))⟩
    unfold Pg.C
    rw [ht, if_neg Bool.false_ne_true, if_pos hx]
  refine ⟨fun k q hq => ?_, fun x hx => ?_, fun q hq k hk => ?_, fun x hx => ?_, fun q hq => ?_, fun x hx => ?_⟩
  · have m := c.more
    unfold Pg.ex at m
    have z := List.all_eq_true.mp m q (List.mem_of_getElem? hq)
    cases e : PySem.W.nsIn K mainGlobals q.1 with
    | none => rw [e] at z; cases z
    | some o =>
      cases o with
      | none => rw [e] at z; cases z
      | some u =>
        rw [e] at z
        obtain ⟨v, r, t⟩ := shB_ok q.2 u z
        exact ⟨v, u, PySem.W.mg_of KX G e, r, t⟩
  · exact He.free_ok KX G (fact (mB (List.mem_map.mpr ⟨x, hx, rfl⟩)))
  · obtain ⟨h1, h2⟩ := s4 q hq
    obtain ⟨c1, c2, _⟩ := cls q.1 h1 h2
    rw [c1] at hk
    cases hk
    exact ⟨c2, He.noat_ok (fact (mL (List.mem_map.mpr ⟨q, hq, rfl⟩)))⟩
  · obtain ⟨t, t1, t2, t3⟩ := look_of (k := fun t : Dt => t.at_.1) (v := fun t => t.d) hx
    have ta : t ∈ p.all := List.mem_append_left _ t1
    obtain ⟨fd, F⟩ := funD_of c ta
    have en : t.nm = x := by
      unfold Dt.nm
      rw [Option.isNone_iff_eq_none.mp (s1 t t1)]
      exact t3
    have ef : He.fAd K t.at_ = He.ga K x := by
      unfold He.fAd
      rw [Option.isNone_iff_eq_none.mp (s1 t t1), t3]
    have D := dt_ok (P := P) (mg := mg) (base := base) c TB hD hS hB ta (fun _ => t1) F
    rw [en] at D
    refine ⟨t.d, He.fAd K t.at_, fd, t.ps, t.qual, t2, ?_, D⟩
    rw [ef]
    exact He.glo_ok KX G (fact (mF (List.mem_map.mpr ⟨t, t1, by rw [t3]⟩)))
  · obtain ⟨t, t1, t2, t3⟩ := look_of (k := fun t : Dt => (t.at_.1, t.nm)) (v := fun t => t.d) hq
    have ta : t ∈ p.all := List.mem_append_right _ (List.mem_append_left _ t1)
    obtain ⟨fd, F⟩ := funD_of c ta
    obtain ⟨⟨⟨m1, m2⟩, m3⟩, m4⟩ := s2 t t1
    obtain ⟨c1, c2, c3⟩ := cls t.at_.1 m2 m3
    refine ⟨t.d, t2, fun k hk => ?_⟩
    have e1 : q.1 = t.at_.1 := by rw [← t3]
    have e2 : q.2 = t.nm := by rw [← t3]
    have hk : p.C K q.1 = some k := hk
    rw [e1, c1] at hk
    cases hk
    obtain ⟨m, hm⟩ := Option.isSome_iff_exists.mp m1
    have en : t.nm = m := by
      unfold Dt.nm
      rw [hm]
      rfl
    have ef : He.fAd K t.at_ = He.ma K (He.ga K t.at_.1) t.nm := by
      unfold He.fAd
      rw [hm, en]
    refine ⟨He.fAd K t.at_, fd, t.ps, t.qual, c2, ?_, ?_⟩
    · rw [ef, e2]
      exact He.meth_ok (fact (mM (List.mem_map.mpr ⟨t, t1, rfl⟩)))
    · rw [e2]
      exact dt_ok c TB hD hS hB ta (fun hg => by rw [m4] at hg; cases hg) F
  · obtain ⟨t, t1, t2, t3⟩ := look_of (k := fun t : Dt => t.at_.1) (v := fun t => t.d) hx
    have ta : t ∈ p.all := List.mem_append_right _ (List.mem_append_right _ t1)
    obtain ⟨fd, F⟩ := funD_of c ta
    obtain ⟨⟨⟨m1, m2⟩, m3⟩, m4⟩ := s3 t t1
    obtain ⟨c1, c2, c3⟩ := cls t.at_.1 m2 m3
    have en : t.nm = "__init__" := by
      unfold Dt.nm
      rw [m1]
      rfl
    have ef : He.fAd K t.at_ = He.ma K (He.ga K t.at_.1) "__init__" := by
      unfold He.fAd
      rw [m1]
    have D := dt_ok (P := P) (mg := mg) (base := base) c TB hD hS hB ta (fun hg => by rw [m4] at hg; cases hg) F
    rw [en, ef] at D
    rw [t3] at c1 c3 D
    have mk := He.mkr_ok (fact (mI (List.mem_map.mpr ⟨t, t1, rfl⟩)))
    rw [t3] at mk
    exact ⟨t.d, t2, He.ga K x, _, fd, t.ps, t.qual, c1, c3, mk, D⟩
end
end Gq

namespace Gq
open PySem PySem.Spec L2

def lawRun (p : Pg) (n : Nat) (t : Dt) (ns : List Int) : Rs Vl := runD (mdOf p.tb n) t.d [.dat (.list (ns.map .int))] []
def Rs.isTrue : Rs Vl → Bool
  | .ok (.dat (.bool true)) _ => true
  | _ => false
theorem ints_sh {K : PySem.W.Frag} {F : Hp} : ∀ ns : List Int, ShA K F (ns.map V.int) (ns.map PyData.int)
  | [] => ShA.nil
  | n :: ns => ShA.cons Sh.int (ints_sh ns)
theorem law_at {p : Pg} {l : PySem.W.OpenLaw} {w : World} {K : PySem.W.Frag} {mg : Str → Option Value} {fa : Addr} {h : Heap} {x : Str} {t : Dt} {n m : Nat} (KX : K.In h) (c : He.SaysX p.fa p.fn [] p.tf p.ex w h K) (G : h.Ns mainGlobals mg)
    (hD : p.okD = true) (hS : p.okS = true) (hB : ∀ t ∈ p.all, t.Bn) (ht : t ∈ p.fns) (hx : t.ps = [x]) (hfa : mg t.at_.1 = some (.ref fa))
    (hlaw : ∀ ns : List Int, ns.length ≤ m → (∀ z ∈ ns, Builtin.Int.intBits z ≤ 1048576) → (lawRun p n t ns).isTrue = true) :
    LamX.LawAtS l w K (L2.CX l.prog w) (5 * n + 5) m x mg fa h := by
  have ta : t ∈ p.all := List.mem_append_left _ ht
  obtain ⟨fd, F⟩ := funD_of c ta
  have s1 : t.at_.2.isNone = true := by
    have hS' := hS
    unfold Pg.okS at hS'
    simp only [Bool.and_eq_true, List.all_eq_true] at hS'
    exact hS'.1.1.1.1 t ht
  have ef : He.fAd K t.at_ = He.ga K t.at_.1 := by
    unfold He.fAd
    rw [Option.isNone_iff_eq_none.mp s1]
  have eg : mg t.at_.1 = some (.ref (He.ga K t.at_.1)) := He.glo_ok KX G (He.SaysD.facts c.t.d (List.mem_append_left _ (List.mem_map.mpr ⟨t, ht, rfl⟩)))
  have efa : fa = He.fAd K t.at_ := by
    rw [hfa] at eg
    cases eg
    exact ef.symm
  have cs : ∀ q ∈ p.tf.map (He.cT K), ∃ d ∈ p.tf, q = He.cT K d := fun q hq => by
    obtain ⟨d, h1, h2⟩ := List.mem_map.mp hq
    exact ⟨d, h1, h2.symm⟩
  refine ⟨fd, p.tf.map (He.cT K), spE K (p.C K) (runD (mdOf p.tb n) t.d), fun q hq => ?_, fun q hq => ?_, fun q hq => ?_, fun s u => ?_, fun H a ns hl hb hT hS' => ?_, fun base KB GB TB => ?_⟩
  · obtain ⟨d, h1, rfl⟩ := cs q hq
    exact c.empty d h1
  · obtain ⟨d, h1, rfl⟩ := cs q hq
    exact c.out d h1
  · obtain ⟨d, h1, rfl⟩ := cs q hq
    exact PySem.W.codeHd_of_K KX (c.hd d h1)
  · have z := FunD.bindsA (ps := t.ps) F (hB t ta) s [u] (by rw [hx]; rfl)
    rw [hx] at z
    exact z
  · have e := hlaw ns hl hb
    unfold lawRun at e
    have nT : ∀ q ∈ p.tf.map (He.cT K), q.2 ≠ a := fun q hq z => by
      have e1 := hT q hq
      obtain ⟨d, h1, h2⟩ := cs q hq
      have e2 : K.lookup q.2 = none := by rw [h2]; exact c.out d h1
      rcases hS' with r | ⟨o, its, k, r, _⟩
      · rcases r with r | ⟨ob, r⟩
        · rw [z, r] at e1; cases e1
        · rw [z, r] at e1; cases e1
      · rw [z, r] at e2; cases e2
    obtain ⟨F0, hF0⟩ : ∃ F0 : Hp, F0 = fun b => if b = a then H a else none := ⟨_, rfl⟩
    have fa0 : F0 a = H a := by rw [hF0]; exact if_pos rfl
    have fn0 : ∀ b, b ≠ a → F0 b = none := fun b hb => by rw [hF0]; exact if_neg hb
    have hSF : SqL K F0 a (ns.map V.int) := by
      rcases hS' with r | r
      · refine .inl ?_
        unfold Rd
        rw [fa0]
        exact r
      · exact .inr r
    refine ⟨F0, [], fun _ => none, [.dat (.list (ns.map .int))], [], ⟨fun b u e => ?_, fun _ _ e => (by cases e), fun _ _ e => (by cases e), fun _ _ e => (by cases e), fun b hb => (by cases hb), List.nodup_nil, rfl, fun k b cc e => (by cases e), fun y P hy hP => ?_⟩, .cons (Sh.lst hSF (ints_sh ns)) .nil, ?_⟩
    · by_cases hb : b = a
      · rw [hb] at e ⊢; rw [fa0] at e; exact e
      · rw [fn0 b hb] at e; cases e
    · unfold Pg.C at hP
      rw [if_pos hy] at hP
      cases q : p.fns.find? fun t => t.gen && t.key == y with
      | none => rw [q] at hP; cases hP
      | some t' =>
        rw [q] at hP
        cases hP
        have q1 := List.find?_some q
        have q2 := List.mem_of_find?_eq_some q
        rw [Bool.and_eq_true] at q1
        have mem : He.cT K t'.at_ ∈ p.tf.map (He.cT K) := List.mem_map.mpr ⟨t'.at_, List.mem_map.mpr ⟨t', List.mem_filter.mpr ⟨q2, q1.1⟩, rfl⟩, rfl⟩
        refine ⟨⟨#[], hT _ mem, trivial⟩, fn0 _ (nT _ mem), rfl⟩
    · cases er : runD (mdOf p.tb n) t.d [.dat (.list (ns.map .int))] [] with
      | no => rw [er] at e; cases e
      | exc _ _ _ => rw [er] at e; cases e
      | ok r s =>
        rw [er] at e
        cases r with
        | fr _ => cases e
        | hnd _ => cases e
        | dat d =>
          cases d with
          | bool b =>
            cases b with
            | false => cases e
            | true => exact fun F' φ' H' v _ _ _ hv => Sh.bl_inv hv
          | _ => cases e
  · have TB0 : ∀ q ∈ p.tf.map (He.cT K), GxR.TabB base mg q.1 q.2 := fun q hq => ⟨(TB q hq).code, (TB q hq).bm, (TB q hq).gP⟩
    have T := tbOk (P := l.prog) (mg := mg) c KB GB TB0 hD hS hB
    have D := dt_ok (P := l.prog) (mg := mg) (base := base) c TB0 hD hS hB ta (fun _ => ht) F
    have z := DfOk.ok (md := mdOf p.tb n) (by rw [mdOf_ms]; exact D) (T.md n)
    rw [hx] at z
    rw [efa]
    exact z
end Gq

section
namespace Gq.Sp
open PySem PySem.Spec L2 Gq
def RngOk (n : Int) : Prop := n < 2 ^ 62 ∧ -(2 ^ 62) ≤ n
instance (n : Int) : Decidable (RngOk n) := inferInstanceAs (Decidable (_ ∧ _))
@[simp] theorem rngOk_of {n : Int} (h0 : 0 ≤ n) (h1 : n ≤ 1000) : RngOk n := by
  unfold RngOk
  omega
def Lim (n : Nat) : Prop := n ≤ 1000000
instance (n : Nat) : Decidable (Lim n) := inferInstanceAs (Decidable (_ ≤ _))
theorem lim_le' {n : Nat} (h : n ≤ 1000000) : Lim n := h
@[simp] theorem lim_of {n : Nat} (h : n ≤ 1000) : Lim n := by
  unfold Lim
  omega
def LrgOk (n : Int) : Prop := 0 ≤ n ∧ n ≤ lim
instance (n : Int) : Decidable (LrgOk n) := inferInstanceAs (Decidable (_ ∧ _))
@[simp] theorem lrgOk_of {n : Int} (h0 : 0 ≤ n) (h1 : n ≤ 1000) : LrgOk n := by
  unfold LrgOk
  have : ((lim : Nat) : Int) = 1000000 := rfl
  omega
section
variable {α β : Type} (s : S) (md : Md)
@[simp] theorem ite_ap (c : Prop) [Decidable c] (f g : S → Rs α) : (if c then f else g) s = if c then f s else g s := by split <;> rfl
@[simp] theorem bnd_ap (m : Mo α) (f : α → Mo β) : bnd m f s = (m s).bind f := (rfl)
@[simp] theorem pur_ap (a : α) : pur a s = .ok a s := (rfl)
@[simp] theorem opt_some (a : α) : opt (some a) s = .ok a s := (rfl)
@[simp] theorem opt_none : opt (none : Option α) s = .no := (rfl)
@[simp] theorem bind_ok (a : α) (f : α → Mo β) : (Rs.ok a s).bind f = f a s := (rfl)
@[simp] theorem bind_exc (c : Str) (fs : List (Str × D)) (f : α → Mo β) : (Rs.exc c fs s).bind f = .exc c fs s := (rfl)
@[simp] theorem bind_no (f : α → Mo β) : (Rs.no : Rs α).bind f = .no := (rfl)
@[simp] theorem asD_dat (d : D) : asD (.dat d) = some d := (rfl)
@[simp] theorem asD_fr (d : List D) : asD (.fr d) = some (.list d) := (rfl)
@[simp] theorem asD_hnd (n : Nat) : asD (.hnd n) = none := (rfl)
@[simp] theorem frz_dat (d : D) : frz (.dat d) = .dat d := (rfl)
@[simp] theorem frz_fr (d : List D) : frz (.fr d) = .dat (.list d) := (rfl)
@[simp] theorem frz_hnd (n : Nat) : frz (.hnd n) = .hnd n := (rfl)
@[simp] theorem peek_ap (i : Nat) : peek i s = match s.env[i]? with
  | some (.dat d) => .ok d s
  | some (.own ds) => .ok (.list ds) s
  | some (.hnd n) => match s.mem[n]? with
    | some (.lst ds) => .ok (.list ds) s
    | _ => .no
  | _ => .no := (rfl)
@[simp] theorem opd_some (i : Nat) (m : Mo Vl) : opd (some i) m = peek i := (rfl)
@[simp] theorem opd_none (m : Mo Vl) : opd none m s = (m s).bind fun r => opt (asD r) := (rfl)
@[simp] theorem op2_some (i : Nat) (ma : Mo Vl) (lb : Option Nat) (mb : Mo Vl) (f : D → D → Option Vl) : op2 (some i) ma lb mb f s = (peek i s).bind fun _ => bnd (opd lb mb) fun y => bnd (peek i) fun x => opt (f x y) := (rfl)
@[simp] theorem op2_none (ma : Mo Vl) (lb : Option Nat) (mb : Mo Vl) (f : D → D → Option Vl) : op2 none ma lb mb f s = (ma s).bind fun r => bnd (opt (asD r)) fun x => bnd (opd lb mb) fun y => opt (f x y) := (rfl)
@[simp] theorem op1_ap (la : Option Nat) (ma : Mo Vl) (f : D → Option Vl) : op1 la ma f s = (opd la ma s).bind fun x => opt (f x) := (rfl)
@[simp] theorem eVar_ap (i : Nat) : eVar i s = match s.env[i]? with
  | some (.dat d) => .ok (.dat d) s
  | some (.own ds) => .ok (.dat (.list ds)) { s with env := s.env.set i (.dat (.list ds)) }
  | some (.hnd n) => .ok (.hnd n) s
  | _ => .no := (rfl)
@[simp] theorem andV_ap (m k : Mo Vl) : andV m k s = (m s).bind fun r => match r with
  | .dat (.bool true) => k
  | .dat (.bool false) => pur (.dat (.bool false))
  | _ => fun _ => .no := (rfl)
@[simp] theorem orV_ap (m k : Mo Vl) : orV m k s = (m s).bind fun r => match r with
  | .dat (.bool true) => pur (.dat (.bool true))
  | .dat (.bool false) => k
  | _ => fun _ => .no := (rfl)
@[simp] theorem notV_ap (m : Mo Vl) : notV m s = (m s).bind fun r => match r with
  | .dat (.bool b) => pur (.dat (.bool (!b)))
  | _ => fun _ => .no := (rfl)
@[simp] theorem negV_ap (m : Mo Vl) : negV m s = (m s).bind fun r => match r with
  | .dat (.int i) => pur (.dat (.int (-i)))
  | _ => fun _ => .no := (rfl)
@[simp] theorem tru_ap (m : Mo Vl) : tru m s = (m s).bind fun r => match r with
  | .dat (.bool b) => pur b
  | .dat .none => pur false
  | _ => fun _ => .no := (rfl)
@[simp] theorem truB_ap (m : Mo Vl) : truB m s = (m s).bind fun r => match r with
  | .dat (.bool b) => pur b
  | _ => fun _ => .no := (rfl)
@[simp] theorem andT_ap (m k : Mo Bool) : andT m k s = (m s).bind fun r => if r then k else pur false := (rfl)
@[simp] theorem orT_ap (m k : Mo Bool) : orT m k s = (m s).bind fun r => if r then pur true else k := (rfl)
@[simp] theorem notT_ap (m : Mo Bool) : notT m s = (m s).bind fun r => pur (!r) := (rfl)
@[simp] theorem iteV_ap (t : Mo Bool) (m k : Mo Vl) : iteV t m k s = (t s).bind fun r => if r then m else k := (rfl)
@[simp] theorem chn3_int (j k : Int) (g : Int → Int → Bool) : chn3 j g (.int k) s = .ok (.dat (.bool (g j k))) s := (rfl)
@[simp] theorem chn2_int (lc : Option Nat) (mc : Mo Vl) (f g : Int → Int → Bool) (i j : Int) : chn2 lc mc f g (.int i) (.int j) s = if f i j then (opd lc mc s).bind (chn3 j g) else .ok (.dat (.bool false)) s := by
  show (if f i j then bnd (opd lc mc) (chn3 j g) else pur (.dat (.bool false))) s = _
  rw [ite_ap]; rfl
@[simp] theorem chnV_ap (la : Option Nat) (ma : Mo Vl) (lb : Option Nat) (mb : Mo Vl) (lc : Option Nat) (mc : Mo Vl) (f g : Int → Int → Bool) : chnV la ma lb mb lc mc f g s = (opd la ma s).bind fun x => bnd (opd lb mb) fun y => chn2 lc mc f g x y := (rfl)
@[simp] theorem evalL_nil : evalL [] s = .ok [] s := (rfl)
@[simp] theorem evalL_cons (m : Mo Vl) (ms : List (Mo Vl)) : evalL (m :: ms) s = (m s).bind fun r => bnd (evalL ms) fun rs => pur (frz r :: rs) := (rfl)
@[simp] theorem datsOf_nil : datsOf [] = some [] := (rfl)
@[simp] theorem datsOf_cons (d : D) (r : List Vl) : datsOf (.dat d :: r) = (datsOf r).map (d :: ·) := (rfl)
@[simp] theorem tupV_ap (m : Mo (List Vl)) : tupV m s = (m s).bind fun rs => match datsOf rs with
  | some ds => if Lim ds.length then pur (.dat (.tuple ds)) else fun _ => .no
  | none => fun _ => .no := (rfl)
@[simp] theorem lstV_ap (m : Mo (List Vl)) : lstV m s = (m s).bind fun rs => match datsOf rs with
  | some ds => if Lim ds.length then pur (.fr ds) else fun _ => .no
  | none => fun _ => .no := (rfl)
@[simp] theorem callV_ap (f : Fn) (m : Mo (List Vl)) : callV f m s = (m s).bind fun rs => fun s => match f rs s.mem with
  | .ok r s' => .ok r { s with mem := s'.mem }
  | .exc c fs s' => .exc c fs { s with mem := s'.mem }
  | .no => .no := (rfl)
@[simp] theorem bltN_ap (g : List D → Option Vl) (m : Mo (List Vl)) : bltN g m s = (m s).bind fun rs => opt ((datsOf rs).bind g) := (rfl)
@[simp] theorem isiV_ap (T : Ty) (la : Option Nat) (ma : Mo Vl) : isiV T la ma s = (opd la ma s).bind fun d => pur (.dat (.bool (isA T d))) := (rfl)
@[simp] theorem lrgV_ap (ma : Mo Vl) : lrgV ma s = (ma s).bind fun r => match r with
  | .dat (.int n) => if LrgOk n then pur (.fr (rgD 0 n)) else fun _ => .no
  | _ => fun _ => .no := (rfl)
@[simp] theorem lget_ap (i : Nat) : lget i s = match s.env[i]? with
  | some (.own ds) => some ds
  | some (.hnd n) => match s.mem[n]? with
    | some (.lst ds) => some ds
    | _ => none
  | _ => none := (rfl)
@[simp] theorem lput_ap (i : Nat) (ds : List D) : lput i ds s = match s.env[i]? with
  | some (.own _) => { s with env := s.env.set i (.own ds) }
  | some (.hnd n) => { s with mem := s.mem.set n (.lst ds) }
  | _ => s := (rfl)
@[simp] theorem mutV_ap (i : Nat) (m : Mo (List Vl)) (f : List D → List D → Option (List D × D)) : mutV i m f s = match lget i s with
  | none => .no
  | some _ => (m s).bind fun rs s' => match datsOf rs, lget i s' with
    | some as, some ds => match f ds as with
      | some (ds', r) => .ok (.dat r) (lput i ds' s')
      | none => .no
    | _, _ => .no := (rfl)
@[simp] theorem prtV_none : prtV none s = .ok none s := (rfl)
@[simp] theorem prtV_some (m : Mo Vl) : prtV (some m) s = (m s).bind fun r => match r with
    | .dat (.int i) => pur (some i)
    | _ => fun _ => .no := (rfl)
@[simp] theorem slV_some (i : Nat) (ma : Mo Vl) (lo hi : Option (Mo Vl)) : slV (some i) ma lo hi s = (peek i s).bind fun _ => bnd (prtV lo) fun l => bnd (prtV hi) fun h => bnd (peek i) fun x => opt (bSl x l h) := (rfl)
@[simp] theorem slV_none (ma : Mo Vl) (lo hi : Option (Mo Vl)) : slV none ma lo hi s = (ma s).bind fun r => bnd (opt (asD r)) fun x => bnd (prtV lo) fun l => bnd (prtV hi) fun h => opt (bSl x l h) := (rfl)
@[simp] theorem han_ap (m : Mo Vl) : han m s = (m s).bind fun r => fun s => match r with
  | .fr ds => .ok (.hnd s.mem.length) { s with mem := s.mem ++ [.lst ds] }
  | _ => .no := (rfl)
@[simp] theorem cellOf_ap (i : Nat) (c : Str) : cellOf i c s = match s.env[i]? with
  | some (.hnd n) => match s.mem[n]? with
    | some (.ins c' fs) => if c' = c then some (n, fs) else none
    | _ => none
  | _ => none := (rfl)
@[simp] theorem eFld_ap (c : Str) (i : Nat) (f : Str) : eFld c i f s = match cellOf i c s with
  | some (_, fs) => match fs.lookup f with
    | some d => .ok (.dat d) s
    | none => .no
  | none => .no := (rfl)
@[simp] theorem mthV_ap (c mn : Str) (i : Nat) (f : Fn) (m : Mo (List Vl)) : mthV c mn i f m s = match cellOf i c s with
  | none => .no
  | some (n, fs) => match fs.lookup mn with
    | some _ => .no
    | none => (m s).bind fun rs s => match f (.hnd n :: rs) s.mem with
      | .ok r s' => .ok r { s with mem := s'.mem }
      | .exc c fs s' => .exc c fs { s with mem := s'.mem }
      | .no => .no := (rfl)
@[simp] theorem makV_ap (c : Str) (f : Fn) (m : Mo (List Vl)) : makV c f m s = (m s).bind fun rs => fun s => match f (.hnd s.mem.length :: rs) (s.mem ++ [.ins c []]) with
  | .ok (.dat .none) s' => .ok (.hnd s.mem.length) { s with mem := s'.mem }
  | .exc c fs s' => .exc c fs { s with mem := s'.mem }
  | _ => .no := (rfl)
@[simp] theorem setD_eq (i : Nat) (d : D) (e : List Sl) : setD i d e = e.set i (.dat d) := (rfl)
@[simp] theorem tgSet_nm (i : Nat) (d : D) (e : List Sl) : tgSet (.nm i) d e = some (e.set i (.dat d)) := (rfl)
@[simp] theorem tgSet_tpT (ts : List Nat) (ds : List D) (e : List Sl) : tgSet (.tp ts) (.tuple ds) e = if ts.length = ds.length then some ((ts.zip ds).foldl (fun e p => setD p.1 p.2 e) e) else none := (rfl)
@[simp] theorem tgSet_tpL (ts : List Nat) (ds : List D) (e : List Sl) : tgSet (.tp ts) (.list ds) e = if ts.length = ds.length then some ((ts.zip ds).foldl (fun e p => setD p.1 p.2 e) e) else none := (rfl)
@[simp] theorem wipeE_nil (e : List Sl) : wipeE e [] = e := (rfl)
@[simp] theorem wipeE_cons (e : List Sl) (v : Nat) (vs : List Nat) : wipeE e (v :: vs) = (wipeE e vs).set v .un := (rfl)
@[simp] theorem backE_nil (e0 e : List Sl) : backE e0 e [] = e := (rfl)
@[simp] theorem backE_cons (e0 e : List Sl) (v : Nat) (vs : List Nat) : backE e0 e (v :: vs) = match e0[v]? with
  | some sl => (backE e0 e vs).set v sl
  | none => backE e0 e vs := (rfl)
@[simp] theorem noOwnAt_nil (e : List Sl) : noOwnAt e [] = true := (rfl)
@[simp] theorem noOwnAt_cons (e : List Sl) (v : Nat) (vs : List Nat) : noOwnAt e (v :: vs) = ((match e[v]? with | some (.own _) => false | _ => true) && noOwnAt e vs) := (rfl)
@[simp] theorem itSeq_ap (m : Mo Vl) : itSeq m s = (m s).bind fun r => match frz r with
  | .dat (.list ds) => pur ds
  | .dat (.tuple ds) => pur ds
  | _ => fun _ => .no := (rfl)
@[simp] theorem itRng1_ap (m : Mo Vl) : itRng1 m s = (m s).bind fun r => match r with
  | .dat (.int n) => if RngOk n then pur (rgD 0 n) else fun _ => .no
  | _ => fun _ => .no := (rfl)
@[simp] theorem itEnu_ap (m : Mo (List Vl)) : itEnu m s = (m s).bind fun rs => match rs with
  | [.dat (.list ds)] => pur (enuD ds)
  | _ => fun _ => .no := (rfl)
@[simp] theorem itZip_ap (m : Mo (List Vl)) : itZip m s = (m s).bind fun rs => match rs with
  | [.dat (.list xs), .dat (.list ys)] => pur (zipD xs ys)
  | [.dat (.tuple xs), .dat (.tuple ys)] => pur (zipD xs ys)
  | _ => fun _ => .no := (rfl)
@[simp] theorem cEnd_ok (s0 : S) (vs : List Nat) (acc : List D) : cEnd s0 vs (.ok acc s) = .ok (.fr acc) { s with env := backE s0.env s.env vs } := (rfl)
@[simp] theorem compV_ap (tg : Tg) (mi : Mo (List D)) (t : Mo Bool) (m : Mo Vl) (vs : List Nat) : compV tg mi t m vs s = (mi s).bind fun ds => fun s =>
  if Lim ds.length ∧ noOwnAt s.env vs = true then cEnd s vs (cLoop tg t m vs ds [] { s with env := wipeE s.env vs }) else .no := (rfl)
@[simp] theorem comp2V_ap (tg : Tg) (mi : Mo (List D)) (tg1 : Tg) (mi1 : Mo (List D)) (m : Mo Vl) (vs vs1 : List Nat) : comp2V tg mi tg1 mi1 m vs vs1 s = (mi s).bind fun ds => fun s =>
  if Lim ds.length ∧ noOwnAt s.env vs = true then cEnd s vs (cLoop2 tg mi1 tg1 m vs vs1 ds [] { s with env := wipeE s.env vs }) else .no := (rfl)
@[simp] theorem allV_ap (mi : Mo (List D)) (me : Mo Vl) : allV mi me s = (mi s).bind fun ds => allLoop me ds := (rfl)
@[simp] theorem seqS_ap (f g : Mo Fl) : seqS f g s = (f s).bind fun r => match r with
  | .nx => g
  | r => pur r := (rfl)
@[simp] theorem slOf_dat (d : D) : slOf (.dat d) = .dat d := (rfl)
@[simp] theorem slOf_fr (d : List D) : slOf (.fr d) = .own d := (rfl)
@[simp] theorem slOf_hnd (n : Nat) : slOf (.hnd n) = .hnd n := (rfl)
@[simp] theorem asgS_ap (i : Nat) (m : Mo Vl) : asgS i m s = (m s).bind fun r => fun s => .ok .nx { s with env := s.env.set i (slOf r) } := (rfl)
@[simp] theorem unpS_ap (ts : List Nat) (m : Mo Vl) : unpS ts m s = (m s).bind fun r => match r with
  | .dat d => fun s => match tgSet (.tp ts) d s.env with
    | some e => .ok .nx { s with env := e }
    | none => .no
  | _ => fun _ => .no := (rfl)
@[simp] theorem parS_ap (i j : Nat) (m : Mo (List Vl)) : parS i j m s = (m s).bind fun rs => match rs with
  | [r1, r2] => fun s => .ok .nx { s with env := (s.env.set i (slOf r1)).set j (slOf r2) }
  | _ => fun _ => .no := (rfl)
@[simp] theorem exprS_ap (m : Mo Vl) : exprS m s = (m s).bind fun _ => pur .nx := (rfl)
@[simp] theorem retS_ap (m : Mo Vl) : retS m s = (m s).bind fun r => pur (.ret r) := (rfl)
@[simp] theorem ifS_ap (t : Mo Bool) (f g : Mo Fl) : ifS t f g s = (t s).bind fun b => if b then f else g := (rfl)
@[simp] theorem eMove_ap (i : Nat) : eMove i s = match s.env[i]? with
  | some (.dat d) => .ok (.dat d) s
  | some (.own ds) => .ok (.fr ds) { s with env := s.env.set i .un }
  | some (.hnd n) => .ok (.hnd n) s
  | _ => .no := (rfl)
@[simp] theorem forS_ap (tg : Tg) (mi : Mo (List D)) (body : Mo Fl) : forS tg mi body s = (mi s).bind fun ds => fLoop tg body ds := (rfl)
@[simp] theorem whlS_ap (n : Nat) (t : Mo Bool) (body : Mo Fl) : whlS n t body s = wLoop t body n s := (rfl)
@[simp] theorem stoS_ap (i : Nat) (mk mv : Mo Vl) : stoS i mk mv s = (mv s).bind fun r => bnd (fun s => match lget i s with | some ds => .ok ds s | none => .no) fun _ => bnd mk fun k => fun s => match asD (frz r), k, lget i s with
  | some d, .dat (.int n), some ds => match ixN ds.length n with
    | some j => .ok .nx (lput i (ds.set j d) s)
    | none => .no
  | _, _, _ => .no := (rfl)
@[simp] theorem sfldS_ap (c : Str) (i : Nat) (f : Str) (mv : Mo Vl) : sfldS c i f mv s = (mv s).bind fun r => fun s => match asD (frz r), cellOf i c s with
  | some d, some (n, fs) => if fs.length < 900 then .ok .nx { s with mem := s.mem.set n (.ins c (putD f d fs)) } else .no
  | _, _ => .no := (rfl)
@[simp] theorem putD_nil (f : Str) (d : D) : putD f d [] = [(f, d)] := (rfl)
@[simp] theorem putD_cons (f : Str) (d : D) (g : Str) (x : D) (r : List (Str × D)) : putD f d ((g, x) :: r) = if g = f then (f, d) :: r else (g, x) :: putD f d r := (rfl)
@[simp] theorem late_var (i : Nat) : late (.var i) = some i := (rfl)
@[simp] theorem late_kon (d : D) : late (.kon d) = none := (rfl)
@[simp] theorem late_glb (k : Nat) : late (.glb k) = none := (rfl)
@[simp] theorem late_bin (o : Bo) (a b : Co) : late (.bin o a b) = none := (rfl)
@[simp] theorem late_cmp (o : Cm) (a b : Co) : late (.cmp o a b) = none := (rfl)
@[simp] theorem late_chn (o o' : Cm) (a b c : Co) : late (.chn o o' a b c) = none := (rfl)
@[simp] theorem late_bls (k : Bool) (es : CoL) : late (.bls k es) = none := (rfl)
@[simp] theorem late_not (a : Co) : late (.not a) = none := (rfl)
@[simp] theorem late_neg (a : Co) : late (.neg a) = none := (rfl)
@[simp] theorem late_ite (a b c : Co) : late (.ite a b c) = none := (rfl)
@[simp] theorem late_tup (es : CoL) : late (.tup es) = none := (rfl)
@[simp] theorem late_lst (es : CoL) : late (.lst es) = none := (rfl)
@[simp] theorem late_sub (a b : Co) : late (.sub a b) = none := (rfl)
@[simp] theorem late_slc (a : Co) (l h : CoL) : late (.slc a l h) = none := (rfl)
@[simp] theorem late_cal (x : Str) (es : CoL) : late (.cal x es) = none := (rfl)
@[simp] theorem late_bl1 (b : B1) (a : Co) : late (.bl1 b a) = none := (rfl)
@[simp] theorem late_bln (b : Bn) (es : CoL) : late (.bln b es) = none := (rfl)
@[simp] theorem late_isi (T : Ty) (a : Co) : late (.isi T a) = none := (rfl)
@[simp] theorem late_lrg (a : Co) : late (.lrg a) = none := (rfl)
@[simp] theorem late_mut (u : Mu) (i : Nat) (es : CoL) : late (.mut u i es) = none := (rfl)
@[simp] theorem late_fld (c : Str) (i : Nat) (f : Str) : late (.fld c i f) = none := (rfl)
@[simp] theorem late_mth (c m : Str) (i : Nat) (es : CoL) : late (.mth c m i es) = none := (rfl)
@[simp] theorem late_mak (c : Str) : late (.mak c) = none := (rfl)
@[simp] theorem late_com (tg : Tg) (it : CoI) (c : CoL) (e : Co) (o : List (Str × Nat)) : late (.com tg it c e o) = none := (rfl)
@[simp] theorem late_han (a : Co) : late (.han a) = none := (rfl)
@[simp] theorem late_co2 (tg : Tg) (it : CoI) (tg1 : Tg) (it1 : CoI) (e : Co) (o : List (Str × Nat)) (v : List Nat) : late (.co2 tg it tg1 it1 e o v) = none := (rfl)
@[simp] theorem late_all (it : CoI) (e : Co) : late (.all it e) = none := (rfl)
@[simp] theorem den_var (i : Nat) : den md (.var i) = eVar i := by rw [den]
@[simp] theorem den_kon (d : D) : den md (.kon d) = pur (.dat d) := by rw [den]
theorem den_glb (k : Nat) : den md (.glb k) = match md.con[k]? with
    | some p => pur (.dat p.2)
    | none => fun _ => .no := by unfold den; rfl
@[simp] theorem den_bin (o : Bo) (a b : Co) : den md (.bin o a b) = op2 (late a) (den md a) (late b) (den md b) o.f := by rw [den]
@[simp] theorem den_cmp (o : Cm) (a b : Co) : den md (.cmp o a b) = op2 (late a) (den md a) (late b) (den md b) o.f := by rw [den]
@[simp] theorem den_chn (o o' : Cm) (a b c : Co) : den md (.chn o o' a b c) = chnV (late a) (den md a) (late b) (den md b) (late c) (den md c) o.p o'.p := by rw [den]
@[simp] theorem den_bls (k : Bool) (es : CoL) : den md (.bls k es) = denB md k es := by rw [den]
@[simp] theorem den_not (a : Co) : den md (.not a) = notV (den md a) := by rw [den]
@[simp] theorem den_neg (a : Co) : den md (.neg a) = negV (den md a) := by rw [den]
@[simp] theorem den_ite (t a b : Co) : den md (.ite t a b) = iteV (denT md t) (den md a) (den md b) := by rw [den]
@[simp] theorem den_tup (es : CoL) : den md (.tup es) = tupV (evalL (denL md es)) := by rw [den]
@[simp] theorem den_lst (es : CoL) : den md (.lst es) = lstV (evalL (denL md es)) := by rw [den]
@[simp] theorem den_sub (a b : Co) : den md (.sub a b) = op2 (late a) (den md a) (late b) (den md b) bIx := by rw [den]
@[simp] theorem den_slc (a : Co) (lo hi : CoL) : den md (.slc a lo hi) = slV (late a) (den md a) (denL md lo).head? (denL md hi).head? := by rw [den]
@[simp] theorem den_cal (x : Str) (es : CoL) : den md (.cal x es) = callV (md.fns x) (evalL (denL md es)) := by rw [den]
@[simp] theorem den_bl1 (b : B1) (a : Co) : den md (.bl1 b a) = op1 (late a) (den md a) b.f := by rw [den]
@[simp] theorem den_bln (b : Bn) (es : CoL) : den md (.bln b es) = bltN b.f (evalL (denL md es)) := by rw [den]
@[simp] theorem den_isi (T : Ty) (a : Co) : den md (.isi T a) = isiV T (late a) (den md a) := by rw [den]
@[simp] theorem den_lrg (a : Co) : den md (.lrg a) = lrgV (den md a) := by rw [den]
@[simp] theorem den_mut (u : Mu) (i : Nat) (es : CoL) : den md (.mut u i es) = mutV i (evalL (denL md es)) u.f := by rw [den]
@[simp] theorem den_fld (c : Str) (i : Nat) (f : Str) : den md (.fld c i f) = eFld c i f := by rw [den]
@[simp] theorem den_mth (c m : Str) (i : Nat) (es : CoL) : den md (.mth c m i es) = mthV c m i (md.mts c m) (evalL (denL md es)) := by rw [den]
@[simp] theorem den_mak (c : Str) : den md (.mak c) = makV c (md.ini c) (evalL []) := by rw [den]
@[simp] theorem den_com (tg : Tg) (it : CoI) (c : CoL) (e : Co) (o : List (Str × Nat)) : den md (.com tg it c e o) = compV tg (denI md it) (denC md c) (den md e) (o.map (·.2)) := by rw [den]
@[simp] theorem den_han (a : Co) : den md (.han a) = han (den md a) := by rw [den]
@[simp] theorem den_all (it : CoI) (e : Co) : den md (.all it e) = allV (denI md it) (den md e) := by rw [den]
@[simp] theorem den_co2 (tg : Tg) (it : CoI) (tg1 : Tg) (it1 : CoI) (e : Co) (o : List (Str × Nat)) (v : List Nat) : den md (.co2 tg it tg1 it1 e o v) = comp2V tg (denI md it) tg1 (denI md it1) (den md e) (o.map (·.2)) v := by rw [den]
@[simp] theorem denT_bls (k : Bool) (es : CoL) : denT md (.bls k es) = denTB md k es := by rw [denT]
@[simp] theorem denT_not (a : Co) : denT md (.not a) = notT (denT md a) := by rw [denT]
@[simp] theorem denT_cmp (o : Cm) (a b : Co) : denT md (.cmp o a b) = truB (op2 (late a) (den md a) (late b) (den md b) o.f) := by rw [denT]
@[simp] theorem denT_chn (o o' : Cm) (a b c : Co) : denT md (.chn o o' a b c) = truB (chnV (late a) (den md a) (late b) (den md b) (late c) (den md c) o.p o'.p) := by rw [denT]
@[simp] theorem denT_var (i : Nat) : denT md (.var i) = tru (eVar i) := by rw [denT]
@[simp] theorem denT_kon (d : D) : denT md (.kon d) = tru (pur (.dat d)) := by rw [denT]
@[simp] theorem denT_sub (a b : Co) : denT md (.sub a b) = tru (op2 (late a) (den md a) (late b) (den md b) bIx) := by rw [denT]
@[simp] theorem denT_cal (x : Str) (es : CoL) : denT md (.cal x es) = tru (callV (md.fns x) (evalL (denL md es))) := by rw [denT]
@[simp] theorem denT_isi (T : Ty) (a : Co) : denT md (.isi T a) = tru (isiV T (late a) (den md a)) := by rw [denT]
@[simp] theorem denT_all (it : CoI) (e : Co) : denT md (.all it e) = tru (allV (denI md it) (den md e)) := by rw [denT]
@[simp] theorem denB_1 (k : Bool) (e : Co) : denB md k (.cons e .nil) = den md e := by rw [denB]
@[simp] theorem denB_and (e e' : Co) (es : CoL) : denB md true (.cons e (.cons e' es)) = andV (den md e) (denB md true (.cons e' es)) := by rw [denB]; rfl; exact fun h => nomatch h
@[simp] theorem denB_or (e e' : Co) (es : CoL) : denB md false (.cons e (.cons e' es)) = orV (den md e) (denB md false (.cons e' es)) := by rw [denB]; rfl; exact fun h => nomatch h
@[simp] theorem denTB_1 (k : Bool) (e : Co) : denTB md k (.cons e .nil) = denT md e := by rw [denTB]
@[simp] theorem denTB_and (e e' : Co) (es : CoL) : denTB md true (.cons e (.cons e' es)) = andT (denT md e) (denTB md true (.cons e' es)) := by rw [denTB]; rfl; exact fun h => nomatch h
@[simp] theorem denTB_or (e e' : Co) (es : CoL) : denTB md false (.cons e (.cons e' es)) = orT (denT md e) (denTB md false (.cons e' es)) := by rw [denTB]; rfl; exact fun h => nomatch h
@[simp] theorem denL_nil : denL md .nil = [] := by rw [denL]
@[simp] theorem denL_cons (e : Co) (es : CoL) : denL md (.cons e es) = den md e :: denL md es := by rw [denL]
@[simp] theorem denI_seq (a : Co) : denI md (.seq a) = itSeq (den md a) := by rw [denI]
@[simp] theorem denI_rn1 (a : Co) : denI md (.rn1 a) = itRng1 (den md a) := by rw [denI]
@[simp] theorem denI_enu (es : CoL) : denI md (.enu es) = itEnu (evalL (denL md es)) := by rw [denI]
@[simp] theorem denI_zip (es : CoL) : denI md (.zip es) = itZip (evalL (denL md es)) := by rw [denI]
@[simp] theorem denC_nil : denC md .nil = pur true := by rw [denC]
@[simp] theorem denC_cons (e : Co) (es : CoL) : denC md (.cons e es) = denT md e := by rw [denC]
@[simp] theorem denS_asg (i : Nat) (e : Co) : denS md (.asg i e) = asgS i (den md e) := by rw [denS]
@[simp] theorem denS_unp (ts : List Nat) (e : Co) : denS md (.unp ts e) = unpS ts (den md e) := by rw [denS]
@[simp] theorem denS_sto (i : Nat) (k e : Co) : denS md (.sto i k e) = stoS i (den md k) (den md e) := by rw [denS]
@[simp] theorem denS_sfl (c : Str) (i : Nat) (f : Str) (e : Co) : denS md (.sfl c i f e) = sfldS c i f (den md e) := by rw [denS]
@[simp] theorem denS_par (i j : Nat) (es : CoL) : denS md (.par i j es) = parS i j (evalL (denL md es)) := by rw [denS]
@[simp] theorem denS_exp (e : Co) : denS md (.exp e) = exprS (den md e) := by rw [denS]
@[simp] theorem denS_ret (e : Co) : denS md (.ret e) = retS (den md e) := by rw [denS]
@[simp] theorem denS_mov (i : Nat) : denS md (.mov i) = retS (eMove i) := by rw [denS]
@[simp] theorem denS_retN : denS md .retN = pur (.ret (.dat .none)) := by rw [denS]
@[simp] theorem denS_iff (t : Co) (a b : SoL) : denS md (.iff t a b) = ifS (denT md t) (denSs md a) (denSs md b) := by rw [denS]
@[simp] theorem denS_lop (tg : Tg) (it : CoI) (b : SoL) : denS md (.lop tg it b) = forS tg (denI md it) (denSs md b) := by rw [denS]
@[simp] theorem denS_whl (t : Co) (b : SoL) : denS md (.whl t b) = whlS md.wn (denT md t) (denSs md b) := by rw [denS]
@[simp] theorem denS_pas : denS md .pas = pur .nx := by rw [denS]
@[simp] theorem denS_brk : denS md .brk = pur .brk := by rw [denS]
@[simp] theorem denS_cnt : denS md .cnt = pur .ct := by rw [denS]
@[simp] theorem denS_nev : denS md .nev s = .no := by rw [denS]
@[simp] theorem denSs_nil : denSs md .nil = pur .nx := by rw [denSs]
@[simp] theorem denSs_cons (a : So) (l : SoL) : denSs md (.cons a l) = seqS (denS md a) (denSs md l) := by rw [denSs]
@[simp] theorem argSl_dat (d : D) : argSl (.dat d) = .dat d := (rfl)
@[simp] theorem argSl_fr (d : List D) : argSl (.fr d) = .own d := (rfl)
@[simp] theorem argSl_hnd (n : Nat) : argSl (.hnd n) = .hnd n := (rfl)
@[simp] theorem runD_ap (d : Df) (args : List Vl) (m : List Cell) : runD md d args m = if args.length = d.np then
    match denSs md d.body ⟨args.map argSl ++ List.replicate (d.ns - d.np) .un, m⟩ with
    | .ok .nx s => .ok (.dat .none) ⟨[], s.mem⟩
    | .ok (.ret r) s => .ok r ⟨[], s.mem⟩
    | .ok _ _ => .no
    | .exc c fs s => .exc c fs ⟨[], s.mem⟩
    | .no => .no
  else .no := (rfl)
@[simp] theorem bo_add : Bo.add.f = bAdd := (rfl)
@[simp] theorem bo_sub : Bo.sub.f = bSub := (rfl)
@[simp] theorem bo_mul : Bo.mul.f = bMul := (rfl)
@[simp] theorem bo_div : Bo.div.f = bDiv := (rfl)
@[simp] theorem bo_mod : Bo.mod.f = bMod := (rfl)
@[simp] theorem bo_pow : Bo.pow.f = bPow := (rfl)
@[simp] theorem cm_eq : Cm.eq.f = cEqB false := (rfl)
@[simp] theorem cm_ne : Cm.ne.f = cEqB true := (rfl)
@[simp] theorem cm_lt : Cm.lt.f = cLt := (rfl)
@[simp] theorem cm_le : Cm.le.f = cLe := (rfl)
@[simp] theorem cm_gt : Cm.gt.f = cGt := (rfl)
@[simp] theorem cm_ge : Cm.ge.f = cGe := (rfl)
@[simp] theorem cm_in : Cm.isin.f = cIn false := (rfl)
@[simp] theorem cm_nin : Cm.notin.f = cIn true := (rfl)
@[simp] theorem cm_is : Cm.is.f = cIs false := (rfl)
@[simp] theorem cm_isn : Cm.isnot.f = cIs true := (rfl)
@[simp] theorem cp_lt : Cm.lt.p = fun i j => decide (i < j) := (rfl)
@[simp] theorem cp_le : Cm.le.p = fun i j => decide (i ≤ j) := (rfl)
@[simp] theorem cp_gt : Cm.gt.p = fun i j => decide (j < i) := (rfl)
@[simp] theorem cp_ge : Cm.ge.p = fun i j => decide (j ≤ i) := (rfl)
@[simp] theorem b1_len : B1.len.f = gLen := (rfl)
@[simp] theorem b1_int : B1.int.f = gInt := (rfl)
@[simp] theorem b1_tuple : B1.tuple.f = gTup := (rfl)
@[simp] theorem b1_list : B1.list.f = gLst := (rfl)
@[simp] theorem b1_max : B1.max.f = gMax := (rfl)
@[simp] theorem b1_min : B1.min.f = gMin := (rfl)
@[simp] theorem b1_sum : B1.sum.f = gSum := (rfl)
@[simp] theorem bn_max : Bn.max.f = gMaxN := (rfl)
@[simp] theorem bn_min : Bn.min.f = gMinN := (rfl)
@[simp] theorem mu_append : Mu.append.f = fAppend := (rfl)
@[simp] theorem mu_pop : Mu.pop.f = fPop := (rfl)
@[simp] theorem mu_extend : Mu.extend.f = fExtend := (rfl)
@[simp] theorem add_ii (i j : Int) : bAdd (.int i) (.int j) = some (.dat (.int (i + j))) := (rfl)
@[simp] theorem add_ss (x y : Str) : bAdd (.str x) (.str y) = if Lim (x.length + y.length) then some (.dat (.str (x ++ y))) else none := (rfl)
@[simp] theorem add_ll (x y : List D) : bAdd (.list x) (.list y) = if Lim (x.length + y.length) then some (.fr (x ++ y)) else none := (rfl)
@[simp] theorem add_tt (x y : List D) : bAdd (.tuple x) (.tuple y) = if Lim (x.length + y.length) then some (.dat (.tuple (x ++ y))) else none := (rfl)
@[simp] theorem sub_ii (i j : Int) : bSub (.int i) (.int j) = some (.dat (.int (i - j))) := (rfl)
@[simp] theorem mul_ii (i j : Int) : bMul (.int i) (.int j) = if mulOk i j then some (.dat (.int (i * j))) else none := (rfl)
@[simp] theorem mulOk_l {i j : Int} (h0 : -100000 ≤ i) (h1 : i ≤ 100000) : mulOk i j = true := by
  unfold mulOk
  have : decide (-(2 ^ 64) < i ∧ i < 2 ^ 64) = true := by
    apply decide_eq_true
    omega
  rw [this]
  rfl
@[simp] theorem mulOk_r {i j : Int} (h0 : -100000 ≤ j) (h1 : j ≤ 100000) : mulOk i j = true := by
  unfold mulOk
  have : decide (-(2 ^ 64) < j ∧ j < 2 ^ 64) = true := by
    apply decide_eq_true
    omega
  rw [this, Bool.or_true]
@[simp] theorem mul_ti (x : List D) (k : Int) : bMul (.tuple x) (.int k) = if x ≠ [] ∧ 2 ≤ k ∧ k ≤ 1000 ∧ x.length ≤ 1000 then some (.dat (.tuple (List.replicate k.toNat x).flatten)) else none := (rfl)
@[simp] theorem mul_li (x : List D) (k : Int) : bMul (.list x) (.int k) = if 0 ≤ k ∧ k ≤ 1000000 ∧ x.length * k.toNat ≤ 1000000 then some (.fr (List.replicate k.toNat x).flatten) else none := (rfl)
@[simp] theorem div_ii (i j : Int) : bDiv (.int i) (.int j) = if j ≠ 0 ∧ j.natAbs < 1073741824 then some (.dat (.int (i.fdiv j))) else none := (rfl)
@[simp] theorem mod_ii (i j : Int) : bMod (.int i) (.int j) = if j ≠ 0 then some (.dat (.int (i.fmod j))) else none := (rfl)
@[simp] theorem pow_ii (i j : Int) : bPow (.int i) (.int j) = if 0 ≤ j ∧ j ≤ 1000000 ∧ i.natAbs < 18446744073709551616 then some (.dat (.int (i ^ j.toNat))) else none := (rfl)
@[simp] theorem cInt_ii (p : Int → Int → Bool) (i j : Int) : cInt p (.int i) (.int j) = some (.dat (.bool (p i j))) := (rfl)
@[simp] theorem cEqB_eq (neg : Bool) (d e : D) : cEqB neg d e = if min d.depth e.depth ≤ 64 then some (.dat (.bool (if neg then !PyData.eqv d e else PyData.eqv d e))) else none := (rfl)
@[simp] theorem cIs_bb (neg a b : Bool) : cIs neg (.bool a) (.bool b) = some (.dat (.bool (if neg then !(a == b) else a == b))) := (rfl)
@[simp] theorem cIs_nb (neg b : Bool) : cIs neg .none (.bool b) = some (.dat (.bool neg)) := (rfl)
@[simp] theorem cIs_nn (neg : Bool) : cIs neg .none .none = some (.dat (.bool (!neg))) := (rfl)
@[simp] theorem cIs_bn (neg b : Bool) : cIs neg (.bool b) .none = some (.dat (.bool neg)) := (rfl)
@[simp] theorem cIs_in (neg : Bool) (i : Int) : cIs neg (.int i) .none = some (.dat (.bool neg)) := (rfl)
@[simp] theorem cIs_sn (neg : Bool) (i : Str) : cIs neg (.str i) .none = some (.dat (.bool neg)) := (rfl)
@[simp] theorem cIs_tn (neg : Bool) (i : List D) : cIs neg (.tuple i) .none = some (.dat (.bool neg)) := (rfl)
@[simp] theorem cIs_ln (neg : Bool) (i : List D) : cIs neg (.list i) .none = some (.dat (.bool neg)) := (rfl)
@[simp] theorem cIn_l (neg : Bool) (e : D) (ds : List D) : cIn neg e (.list ds) = if e.depth ≤ 64 then some (.dat (.bool (if neg then !(ds.any fun d => PyData.eqv d e) else ds.any fun d => PyData.eqv d e))) else none := (rfl)
@[simp] theorem cIn_t (neg : Bool) (e : D) (ds : List D) : cIn neg e (.tuple ds) = if e.depth ≤ 64 then some (.dat (.bool (if neg then !(ds.any fun d => PyData.eqv d e) else ds.any fun d => PyData.eqv d e))) else none := (rfl)
@[simp] theorem ix_l (x : List D) (i : Int) : bIx (.list x) (.int i) = (atI x i).map .dat := (rfl)
@[simp] theorem ix_t (x : List D) (i : Int) : bIx (.tuple x) (.int i) = (atI x i).map .dat := (rfl)
@[simp] theorem len_l (x : List D) : gLen (.list x) = some (.dat (.int x.length)) := (rfl)
@[simp] theorem len_t (x : List D) : gLen (.tuple x) = some (.dat (.int x.length)) := (rfl)
@[simp] theorem int_i (i : Int) : gInt (.int i) = some (.dat (.int i)) := (rfl)
@[simp] theorem int_b (b : Bool) : gInt (.bool b) = some (.dat (.int (if b then 1 else 0))) := (rfl)
@[simp] theorem tup_l (x : List D) : gTup (.list x) = some (.dat (.tuple x)) := (rfl)
@[simp] theorem tup_t (x : List D) : gTup (.tuple x) = some (.dat (.tuple x)) := (rfl)
@[simp] theorem lst_l (x : List D) : gLst (.list x) = some (.fr x) := (rfl)
@[simp] theorem lst_t (x : List D) : gLst (.tuple x) = some (.fr x) := (rfl)
@[simp] theorem intsOf_nil : intsOf [] = some [] := (rfl)
@[simp] theorem intsOf_cons (i : Int) (r : List D) : intsOf (.int i :: r) = (intsOf r).map (i :: ·) := (rfl)
theorem intsOf_map (l : List Int) : intsOf (l.map .int) = some l := by
  induction l with
  | nil => rfl
  | cons i l ih => simp [ih]
@[simp] theorem max_l (x : List D) : gMax (.list x) = (intsOf x).bind fun ns => if ns = [] then none else some (.dat (.int (maxOf ns))) := (rfl)
@[simp] theorem min_l (x : List D) : gMin (.list x) = (intsOf x).bind fun ns => if ns = [] then none else some (.dat (.int (minOf ns))) := (rfl)
@[simp] theorem sum_l (x : List D) : gSum (.list x) = (intsOf x).bind fun ns => some (.dat (.int ns.sum)) := (rfl)
@[simp] theorem maxOf_1 (i : Int) : maxOf [i] = i := (rfl)
@[simp] theorem maxOf_cons (i j : Int) (r : List Int) : maxOf (i :: j :: r) = max i (maxOf (j :: r)) := (rfl)
@[simp] theorem minOf_1 (i : Int) : minOf [i] = i := (rfl)
@[simp] theorem minOf_cons (i j : Int) (r : List Int) : minOf (i :: j :: r) = min i (minOf (j :: r)) := (rfl)
@[simp] theorem maxN2 (i j : Int) : gMaxN [.int i, .int j] = some (.dat (.int (max i j))) := (rfl)
@[simp] theorem maxN3 (i j k : Int) : gMaxN [.int i, .int j, .int k] = some (.dat (.int (max (max i j) k))) := (rfl)
@[simp] theorem minN2 (i j : Int) : gMinN [.int i, .int j] = some (.dat (.int (min i j))) := (rfl)
@[simp] theorem isA_i_i (i : Int) : isA .int (.int i) = true := (rfl)
@[simp] theorem isA_i_b (i : Bool) : isA .int (.bool i) = true := (rfl)
@[simp] theorem isA_i_n : isA .int .none = false := (rfl)
@[simp] theorem isA_i_s (x : Str) : isA .int (.str x) = false := (rfl)
@[simp] theorem isA_i_t (x : List D) : isA .int (.tuple x) = false := (rfl)
@[simp] theorem isA_i_l (x : List D) : isA .int (.list x) = false := (rfl)
@[simp] theorem isA_b_i (i : Int) : isA .bool (.int i) = false := (rfl)
@[simp] theorem isA_b_b (i : Bool) : isA .bool (.bool i) = true := (rfl)
@[simp] theorem isA_b_n : isA .bool .none = false := (rfl)
@[simp] theorem isA_b_s (x : Str) : isA .bool (.str x) = false := (rfl)
@[simp] theorem isA_b_t (x : List D) : isA .bool (.tuple x) = false := (rfl)
@[simp] theorem isA_b_l (x : List D) : isA .bool (.list x) = false := (rfl)
@[simp] theorem isA_s_i (i : Int) : isA .str (.int i) = false := (rfl)
@[simp] theorem isA_s_b (i : Bool) : isA .str (.bool i) = false := (rfl)
@[simp] theorem isA_s_n : isA .str .none = false := (rfl)
@[simp] theorem isA_s_s (x : Str) : isA .str (.str x) = true := (rfl)
@[simp] theorem isA_s_t (x : List D) : isA .str (.tuple x) = false := (rfl)
@[simp] theorem isA_s_l (x : List D) : isA .str (.list x) = false := (rfl)
@[simp] theorem isA_t_i (i : Int) : isA .tuple (.int i) = false := (rfl)
@[simp] theorem isA_t_b (i : Bool) : isA .tuple (.bool i) = false := (rfl)
@[simp] theorem isA_t_n : isA .tuple .none = false := (rfl)
@[simp] theorem isA_t_s (x : Str) : isA .tuple (.str x) = false := (rfl)
@[simp] theorem isA_t_t (x : List D) : isA .tuple (.tuple x) = true := (rfl)
@[simp] theorem isA_t_l (x : List D) : isA .tuple (.list x) = false := (rfl)
@[simp] theorem isA_l_i (i : Int) : isA .list (.int i) = false := (rfl)
@[simp] theorem isA_l_b (i : Bool) : isA .list (.bool i) = false := (rfl)
@[simp] theorem isA_l_n : isA .list .none = false := (rfl)
@[simp] theorem isA_l_s (x : Str) : isA .list (.str x) = false := (rfl)
@[simp] theorem isA_l_t (x : List D) : isA .list (.tuple x) = false := (rfl)
@[simp] theorem isA_l_l (x : List D) : isA .list (.list x) = true := (rfl)
@[simp] theorem append_1 (ds : List D) (d : D) : fAppend ds [d] = if Lim (ds.length + 1) then some (ds ++ [d], .none) else none := by
  show (if ds.length < 1000000 then _ else _) = _
  by_cases h : Lim (ds.length + 1)
  · rw [if_pos h, if_pos (show ds.length < 1000000 from h)]
  · rw [if_neg h, if_neg (show ¬ ds.length < 1000000 from h)]
@[simp] theorem pop_1 (ds : List D) (i : Int) : fPop ds [.int i] = if Lim ds.length then (ixN ds.length i).bind fun k => (ds[k]?).map fun z => (ds.eraseIdx k, z) else none := (rfl)
@[simp] theorem extend_1 (ds es : List D) : fExtend ds [.list es] = if Lim (ds.length + es.length) then some (ds ++ es, .none) else none := (rfl)
@[simp] theorem sl_l (x : List D) (lo hi : Option Int) : bSl (.list x) lo hi = some (.fr ((x.drop (HT.sIx x.length 0 lo)).take (HT.sIx x.length x.length hi - HT.sIx x.length 0 lo))) := (rfl)
@[simp] theorem sl_t (x : List D) (lo hi : Option Int) : bSl (.tuple x) lo hi = some (.dat (.tuple ((x.drop (HT.sIx x.length 0 lo)).take (HT.sIx x.length x.length hi - HT.sIx x.length 0 lo)))) := (rfl)
@[simp] theorem fLoop_nil (tg : Tg) (body : Mo Fl) : fLoop tg body [] s = .ok .nx s := (rfl)
@[simp] theorem fLoop_cons (tg : Tg) (body : Mo Fl) (d : D) (ds : List D) : fLoop tg body (d :: ds) s = match tgSet tg d s.env with
    | none => .no
    | some e => (body { s with env := e }).bind fun f s2 => match f with
      | .nx => fLoop tg body ds s2
      | .ct => fLoop tg body ds s2
      | .brk => .ok .nx s2
      | .ret r => .ok (.ret r) s2 := (rfl)
@[simp] theorem cLoop_nil (tg : Tg) (t : Mo Bool) (m : Mo Vl) (vs : List Nat) (acc : List D) : cLoop tg t m vs [] acc s = .ok acc s := (rfl)
@[simp] theorem cLoop_cons (tg : Tg) (t : Mo Bool) (m : Mo Vl) (vs : List Nat) (d : D) (ds acc : List D) : cLoop tg t m vs (d :: ds) acc s = match tgSet tg d s.env with
    | none => .no
    | some e => (t { s with env := e }).bind fun b s2 =>
      if b then (m s2).bind fun r s3 => match asD r with
        | some y => cLoop tg t m vs ds (acc ++ [y]) { s3 with env := wipeE s3.env vs }
        | none => .no
      else cLoop tg t m vs ds acc { s2 with env := wipeE s2.env vs } := (rfl)
end
end Gq.Sp
end

section
namespace Gq
open PySem PySem.Spec L2
class WN (T : Tb) : Prop where
  eq : ∀ n, (mdOf T n).wn = 100000
@[simp] theorem wn_eq {T : Tb} [h : WN T] (n : Nat) : (mdOf T n).wn = 100000 := h.eq n
theorem kn_of {T : Tb} {k : Nat} {x : Str} {d : D} (h : T.con[k]? = some (x, d)) : ∀ n, den (mdOf T n) (.glb k) = pur (.dat d) := fun n => by
  rw [Sp.den_glb]
  have e : (mdOf T n).con = T.con := congrArg Ms.con (mdOf_ms n)
  rw [e, h]
theorem WN.of {T : Tb} (h : T.wn = 100000) : WN T := ⟨fun n => by cases n <;> exact h⟩
def d_is_number : Df := ⟨1, 1, (.cons (.ret (.bls true (.cons (.isi .int (.var 0)) (.cons (.not (.isi .bool (.var 0))) .nil)))) .nil)⟩
def d_is_within : Df := ⟨3, 3, (.cons (.ret (.bls true (.cons (.cal "is_number" (.cons (.var 0) .nil)) (.cons (.chn .le .le (.var 1) (.var 0) (.var 2)) .nil)))) .nil)⟩
def d_is_gap : Df := ⟨1, 3, (.cons (.iff (.bls false (.cons (.not (.isi .tuple (.var 0))) (.cons (.cmp .ne (.bl1 .len (.var 0)) (.kon (.int 2))) .nil))) (.cons (.ret (.kon (.bool false))) .nil) .nil) (.cons (.unp [1, 2] (.var 0)) (.cons (.ret (.bls true (.cons (.cmp .eq (.var 1) (.kon (.str "gap"))) (.cons (.cal "is_within" (.cons (.var 2) (.cons (.kon (.int 0)) (.cons (.glb 0) .nil)))) .nil)))) .nil)))⟩
def d_is_cell : Df := ⟨1, 1, (.cons (.ret (.bls false (.cons (.cal "is_within" (.cons (.var 0) (.cons (.kon (.int 0)) (.cons (.glb 1) .nil)))) (.cons (.cal "is_gap" (.cons (.var 0) .nil)) .nil)))) .nil)⟩
def d_is_row : Df := ⟨2, 2, (.cons (.ret (.bls true (.cons (.isi .tuple (.var 0)) (.cons (.cmp .eq (.bl1 .len (.var 0)) (.var 1)) (.cons (.all (.seq (.var 0)) (.cal "is_cell" (.cons (.var 0) .nil))) .nil))))) .nil)⟩
def d_check_row : Df := ⟨1, 1, (.cons (.iff (.bls false (.cons (.not (.isi .tuple (.var 0))) (.cons (.not (.chn .le .le (.kon (.int 1)) (.bl1 .len (.var 0)) (.glb 2))) (.cons (.not (.cal "is_row" (.cons (.var 0) (.cons (.bl1 .len (.var 0)) .nil)))) .nil)))) (.cons .nev .nil) .nil) .nil)⟩
def d_check_table : Df := ⟨2, 6, (.cons (.iff (.bls false (.cons (.not (.isi .tuple (.var 0))) (.cons (.cmp .ne (.bl1 .len (.var 0)) (.kon (.int 2))) .nil))) (.cons .nev .nil) .nil) (.cons (.unp [2, 3] (.var 0)) (.cons (.iff (.bls false (.cons (.not (.cal "is_within" (.cons (.var 2) (.cons (.kon (.int 1)) (.cons (.glb 8) .nil))))) (.cons (.not (.isi .list (.var 3))) (.cons (.cmp .gt (.bl1 .len (.var 3)) (.glb 9)) .nil)))) (.cons .nev .nil) .nil) (.cons (.lop (.tp [4, 5]) (.enu (.cons (.var 3) .nil)) (.cons (.iff (.not (.cal "is_row" (.cons (.var 5) (.cons (.var 2) .nil)))) (.cons .nev .nil) .nil) .nil)) .nil))))⟩
def d_check_tables : Df := ⟨1, 3, (.cons (.iff (.bls false (.cons (.not (.isi .list (.var 0))) (.cons (.not (.chn .le .le (.kon (.int 1)) (.bl1 .len (.var 0)) (.glb 7))) .nil))) (.cons .nev .nil) .nil) (.cons (.lop (.tp [1, 2]) (.enu (.cons (.var 0) .nil)) (.cons (.exp (.cal "check_table" (.cons (.var 2) (.cons (.var 1) .nil)))) .nil)) .nil))⟩
def d_widths_of : Df := ⟨1, 3, (.cons (.ret (.com (.tp [1, 2]) (.seq (.var 0)) .nil (.var 1) [("wide", 1), ("_", 2)])) .nil)⟩
def d_Tally_init : Df := ⟨1, 1, (.cons (.sfl "Tally" 0 "met" (.kon (.int 0))) .nil)⟩
def d_Tally_another : Df := ⟨1, 2, (.cons (.asg 1 (.fld "Tally" 0 "met")) (.cons (.iff (.cmp .ge (.var 1) (.glb 5)) (.cons .nev .nil) .nil) (.cons (.sfl "Tally" 0 "met" (.bin .add (.var 1) (.kon (.int 1)))) (.cons (.mov 1) .nil))))⟩
def d_has_shape : Df := ⟨2, 2, (.cons (.ret (.bls true (.cons (.isi .tuple (.var 0)) (.cons (.cmp .gt (.bl1 .len (.var 0)) (.kon (.int 0))) (.cons (.cmp .isin (.tup (.cons (.sub (.var 0) (.kon (.int 0))) (.cons (.bin .sub (.bl1 .len (.var 0)) (.kon (.int 1))) .nil))) (.var 1)) .nil))))) .nil)⟩
def d_look_at_part : Df := ⟨3, 5, (.cons (.asg 3 (.mth "Tally" "another" 2 .nil)) (.cons (.iff (.not (.cal "has_shape" (.cons (.var 0) (.cons (.glb 3) .nil)))) (.cons .nev .nil) .nil) (.cons (.asg 4 (.sub (.var 0) (.kon (.int 0)))) (.cons (.iff (.cmp .isin (.var 4) (.tup (.cons (.kon (.str "plus")) (.cons (.kon (.str "take")) .nil)))) (.cons (.exp (.cal "look_at_part" (.cons (.sub (.var 0) (.kon (.int 1))) (.cons (.var 1) (.cons (.var 2) .nil))))) (.cons (.exp (.cal "look_at_part" (.cons (.sub (.var 0) (.kon (.int 2))) (.cons (.var 1) (.cons (.var 2) .nil))))) (.cons .retN .nil))) .nil) (.cons (.iff (.not (.cal "is_number" (.cons (.sub (.var 0) (.kon (.int 1))) .nil))) (.cons .nev .nil) .nil) (.cons (.iff (.bls true (.cons (.cmp .eq (.var 4) (.kon (.str "col"))) (.cons (.not (.chn .le .lt (.kon (.int 0)) (.sub (.var 0) (.kon (.int 1))) (.var 1))) .nil))) (.cons .nev .nil) .nil) (.cons (.iff (.bls true (.cons (.cmp .eq (.var 4) (.kon (.str "num"))) (.cons (.not (.cal "is_within" (.cons (.sub (.var 0) (.kon (.int 1))) (.cons (.kon (.int 0)) (.cons (.glb 1) .nil))))) .nil))) (.cons .nev .nil) .nil) .nil)))))))⟩
def d_look_at_condition : Df := ⟨3, 6, (.cons (.asg 3 (.mth "Tally" "another" 2 .nil)) (.cons (.iff (.not (.cal "has_shape" (.cons (.var 0) (.cons (.glb 4) .nil)))) (.cons .nev .nil) .nil) (.cons (.asg 4 (.cmp .isin (.sub (.var 0) (.kon (.int 0))) (.tup (.cons (.kon (.str "is")) (.cons (.kon (.str "less")) (.cons (.kon (.str "lacks")) .nil)))))) (.cons (.lop (.nm 5) (.seq (.slc (.var 0) (.cons (.kon (.int 1)) .nil) .nil)) (.cons (.iff (.var 4) (.cons (.exp (.cal "look_at_part" (.cons (.var 5) (.cons (.var 1) (.cons (.var 2) .nil))))) .nil) (.cons (.exp (.cal "look_at_condition" (.cons (.var 5) (.cons (.var 1) (.cons (.var 2) .nil))))) .nil)) .nil)) .nil))))⟩
def d_check_condition : Df := ⟨2, 2, (.cons (.exp (.cal "look_at_condition" (.cons (.var 0) (.cons (.var 1) (.cons (.mak "Tally") .nil))))) .nil)⟩
def d_are_numbers : Df := ⟨1, 1, (.cons (.ret (.bls true (.cons (.isi .tuple (.var 0)) (.cons (.all (.seq (.var 0)) (.cal "is_number" (.cons (.var 0) .nil))) .nil)))) .nil)⟩
def d_is_pair : Df := ⟨1, 1, (.cons (.ret (.bls true (.cons (.cal "are_numbers" (.cons (.var 0) .nil)) (.cons (.cmp .eq (.bl1 .len (.var 0)) (.kon (.int 2))) .nil)))) .nil)⟩
def d_are_pairs : Df := ⟨1, 1, (.cons (.ret (.bls true (.cons (.isi .tuple (.var 0)) (.cons (.all (.seq (.var 0)) (.cal "is_pair" (.cons (.var 0) .nil))) .nil)))) .nil)⟩
def d_is_told_rightly : Df := ⟨1, 2, (.cons (.asg 1 (.sub (.var 0) (.kon (.int 0)))) (.cons (.iff (.cmp .eq (.var 1) (.kon (.str "rows"))) (.cons (.ret (.cal "is_number" (.cons (.sub (.var 0) (.kon (.int 1))) .nil))) .nil) .nil) (.cons (.iff (.cmp .eq (.var 1) (.kon (.str "pick"))) (.cons (.ret (.cal "are_numbers" (.cons (.sub (.var 0) (.kon (.int 2))) .nil))) .nil) .nil) (.cons (.iff (.cmp .eq (.var 1) (.kon (.str "join"))) (.cons (.ret (.cal "are_pairs" (.cons (.sub (.var 0) (.kon (.int 3))) .nil))) .nil) .nil) (.cons (.ret (.kon (.bool true))) .nil)))))⟩
def d_table_width : Df := ⟨3, 3, (.cons (.iff (.not (.chn .le .lt (.kon (.int 0)) (.var 0) (.bl1 .len (.var 1)))) (.cons .nev .nil) .nil) (.cons (.ret (.sub (.var 1) (.var 0))) .nil))⟩
def d_pick_width : Df := ⟨3, 4, (.cons (.iff (.not (.chn .le .le (.kon (.int 1)) (.bl1 .len (.var 0)) (.glb 2))) (.cons .nev .nil) .nil) (.cons (.lop (.nm 3) (.seq (.var 0)) (.cons (.iff (.not (.chn .le .lt (.kon (.int 0)) (.var 3) (.var 1))) (.cons .nev .nil) .nil) .nil)) (.cons (.ret (.bl1 .len (.var 0))) .nil)))⟩
def d_join_width : Df := ⟨4, 6, (.cons (.iff (.cmp .gt (.bin .add (.var 0) (.var 1)) (.glb 2)) (.cons .nev .nil) .nil) (.cons (.lop (.tp [4, 5]) (.seq (.var 2)) (.cons (.iff (.bls false (.cons (.not (.chn .le .lt (.kon (.int 0)) (.var 4) (.var 0))) (.cons (.not (.chn .le .lt (.kon (.int 0)) (.var 5) (.var 1))) .nil))) (.cons .nev .nil) .nil) .nil)) (.cons (.ret (.bin .add (.var 0) (.var 1))) .nil)))⟩
def d_look_at_sentence : Df := ⟨3, 7, (.cons (.asg 3 (.mth "Tally" "another" 2 .nil)) (.cons (.iff (.bls false (.cons (.not (.cal "has_shape" (.cons (.var 0) (.cons (.glb 6) .nil)))) (.cons (.not (.cal "is_told_rightly" (.cons (.var 0) .nil))) .nil))) (.cons .nev .nil) .nil) (.cons (.asg 4 (.sub (.var 0) (.kon (.int 0)))) (.cons (.iff (.cmp .eq (.var 4) (.kon (.str "rows"))) (.cons (.ret (.cal "table_width" (.cons (.sub (.var 0) (.kon (.int 1))) (.cons (.var 1) (.cons (.var 3) .nil))))) .nil) .nil) (.cons (.asg 5 (.cal "look_at_sentence" (.cons (.sub (.var 0) (.kon (.int 1))) (.cons (.var 1) (.cons (.var 2) .nil))))) (.cons (.iff (.cmp .eq (.var 4) (.kon (.str "keep"))) (.cons (.exp (.cal "look_at_condition" (.cons (.sub (.var 0) (.kon (.int 2))) (.cons (.var 5) (.cons (.var 2) .nil))))) (.cons (.mov 5) .nil)) .nil) (.cons (.iff (.cmp .eq (.var 4) (.kon (.str "pick"))) (.cons (.ret (.cal "pick_width" (.cons (.sub (.var 0) (.kon (.int 2))) (.cons (.var 5) (.cons (.var 3) .nil))))) .nil) .nil) (.cons (.asg 6 (.cal "look_at_sentence" (.cons (.sub (.var 0) (.kon (.int 2))) (.cons (.var 1) (.cons (.var 2) .nil))))) (.cons (.iff (.cmp .eq (.var 4) (.kon (.str "join"))) (.cons (.ret (.cal "join_width" (.cons (.var 5) (.cons (.var 6) (.cons (.sub (.var 0) (.kon (.int 3))) (.cons (.var 3) .nil)))))) .nil) .nil) (.cons (.iff (.cmp .ne (.var 5) (.var 6)) (.cons .nev .nil) .nil) (.cons (.mov 5) .nil)))))))))))⟩
def d_check_sentence : Df := ⟨2, 2, (.cons (.ret (.cal "look_at_sentence" (.cons (.var 0) (.cons (.var 1) (.cons (.mak "Tally") .nil))))) .nil)⟩
def d_check_over_tables : Df := ⟨2, 2, (.cons (.exp (.cal "check_tables" (.cons (.var 1) .nil))) (.cons (.ret (.cal "check_sentence" (.cons (.var 0) (.cons (.cal "widths_of" (.cons (.var 1) .nil)) .nil)))) .nil))⟩
def d_opposite : Df := ⟨1, 1, (.cons (.iff (.cmp .is (.var 0) (.kon .none)) (.cons (.ret (.kon .none)) .nil) .nil) (.cons (.ret (.not (.var 0))) .nil))⟩
def d_of_both : Df := ⟨2, 2, (.cons (.iff (.bls false (.cons (.cmp .is (.var 0) (.kon (.bool false))) (.cons (.cmp .is (.var 1) (.kon (.bool false))) .nil))) (.cons (.ret (.kon (.bool false))) .nil) .nil) (.cons (.iff (.bls false (.cons (.cmp .is (.var 0) (.kon .none)) (.cons (.cmp .is (.var 1) (.kon .none)) .nil))) (.cons (.ret (.kon .none)) .nil) .nil) (.cons (.ret (.kon (.bool true))) .nil)))⟩
def d_of_either : Df := ⟨2, 2, (.cons (.iff (.bls false (.cons (.cmp .is (.var 0) (.kon (.bool true))) (.cons (.cmp .is (.var 1) (.kon (.bool true))) .nil))) (.cons (.ret (.kon (.bool true))) .nil) .nil) (.cons (.iff (.bls false (.cons (.cmp .is (.var 0) (.kon .none)) (.cons (.cmp .is (.var 1) (.kon .none)) .nil))) (.cons (.ret (.kon .none)) .nil) .nil) (.cons (.ret (.kon (.bool false))) .nil)))⟩
def d_are_known : Df := ⟨2, 2, (.cons (.ret (.bls true (.cons (.isi .int (.var 0)) (.cons (.isi .int (.var 1)) .nil)))) .nil)⟩
def d_are_one_gap : Df := ⟨2, 2, (.cons (.ret (.bls true (.cons (.isi .tuple (.var 0)) (.cons (.cmp .eq (.var 0) (.var 1)) .nil)))) .nil)⟩
def d_same : Df := ⟨2, 2, (.cons (.iff (.cal "are_known" (.cons (.var 0) (.cons (.var 1) .nil))) (.cons (.ret (.cmp .eq (.var 0) (.var 1))) .nil) .nil) (.cons (.iff (.cal "are_one_gap" (.cons (.var 0) (.cons (.var 1) .nil))) (.cons (.ret (.kon (.bool true))) .nil) .nil) (.cons (.ret (.kon .none)) .nil)))⟩
def d_less : Df := ⟨2, 2, (.cons (.iff (.cal "are_known" (.cons (.var 0) (.cons (.var 1) .nil))) (.cons (.ret (.cmp .lt (.var 0) (.var 1))) .nil) .nil) (.cons (.iff (.cal "are_one_gap" (.cons (.var 0) (.cons (.var 1) .nil))) (.cons (.ret (.kon (.bool false))) .nil) .nil) (.cons (.ret (.kon .none)) .nil)))⟩
def d_comes_to : Df := ⟨2, 5, (.cons (.asg 2 (.sub (.var 0) (.kon (.int 0)))) (.cons (.iff (.cmp .eq (.var 2) (.kon (.str "col"))) (.cons (.ret (.sub (.var 1) (.sub (.var 0) (.kon (.int 1))))) .nil) .nil) (.cons (.iff (.cmp .eq (.var 2) (.kon (.str "num"))) (.cons (.ret (.sub (.var 0) (.kon (.int 1)))) .nil) .nil) (.cons (.asg 3 (.cal "comes_to" (.cons (.sub (.var 0) (.kon (.int 1))) (.cons (.var 1) .nil)))) (.cons (.asg 4 (.cal "comes_to" (.cons (.sub (.var 0) (.kon (.int 2))) (.cons (.var 1) .nil)))) (.cons (.iff (.not (.cal "are_known" (.cons (.var 3) (.cons (.var 4) .nil)))) (.cons (.ret (.kon .none)) .nil) .nil) (.cons (.iff (.cmp .eq (.var 2) (.kon (.str "plus"))) (.cons (.ret (.bin .add (.var 3) (.var 4))) .nil) .nil) (.cons (.ret (.bin .sub (.var 3) (.var 4))) .nil))))))))⟩
def d_truth_of_parts : Df := ⟨2, 5, (.cons (.asg 2 (.sub (.var 0) (.kon (.int 0)))) (.cons (.asg 3 (.cal "comes_to" (.cons (.sub (.var 0) (.kon (.int 1))) (.cons (.var 1) .nil)))) (.cons (.iff (.cmp .eq (.var 2) (.kon (.str "lacks"))) (.cons (.ret (.not (.isi .int (.var 3)))) .nil) .nil) (.cons (.asg 4 (.cal "comes_to" (.cons (.sub (.var 0) (.kon (.int 2))) (.cons (.var 1) .nil)))) (.cons (.iff (.cmp .eq (.var 2) (.kon (.str "is"))) (.cons (.ret (.cal "same" (.cons (.var 3) (.cons (.var 4) .nil)))) .nil) .nil) (.cons (.ret (.cal "less" (.cons (.var 3) (.cons (.var 4) .nil)))) .nil))))))⟩
def d_truth_of : Df := ⟨2, 5, (.cons (.asg 2 (.sub (.var 0) (.kon (.int 0)))) (.cons (.iff (.cmp .isin (.var 2) (.tup (.cons (.kon (.str "is")) (.cons (.kon (.str "less")) (.cons (.kon (.str "lacks")) .nil))))) (.cons (.ret (.cal "truth_of_parts" (.cons (.var 0) (.cons (.var 1) .nil)))) .nil) .nil) (.cons (.asg 3 (.cal "truth_of" (.cons (.sub (.var 0) (.kon (.int 1))) (.cons (.var 1) .nil)))) (.cons (.iff (.cmp .eq (.var 2) (.kon (.str "not"))) (.cons (.ret (.cal "opposite" (.cons (.var 3) .nil))) .nil) .nil) (.cons (.iff (.cmp .eq (.var 2) (.kon (.str "true"))) (.cons (.ret (.cmp .is (.var 3) (.kon (.bool true)))) .nil) .nil) (.cons (.asg 4 (.cal "truth_of" (.cons (.sub (.var 0) (.kon (.int 2))) (.cons (.var 1) .nil)))) (.cons (.iff (.cmp .eq (.var 2) (.kon (.str "and"))) (.cons (.ret (.cal "of_both" (.cons (.var 3) (.cons (.var 4) .nil)))) .nil) .nil) (.cons (.ret (.cal "of_either" (.cons (.var 3) (.cons (.var 4) .nil)))) .nil))))))))⟩
def d_same_cells : Df := ⟨2, 5, (.cons (.asg 2 (.kon (.bool true))) (.cons (.lop (.tp [3, 4]) (.zip (.cons (.var 0) (.cons (.var 1) .nil))) (.cons (.asg 2 (.cal "of_both" (.cons (.var 2) (.cons (.cal "same" (.cons (.var 3) (.cons (.var 4) .nil))) .nil)))) .nil)) (.cons (.mov 2) .nil)))⟩
def d_not_false : Df := ⟨1, 3, (.cons (.ret (.com (.tp [1, 2]) (.seq (.var 0)) (.cons (.cmp .isnot (.var 2) (.kon (.bool false))) .nil) (.tup (.cons (.var 1) (.cons (.var 2) .nil))) [("row", 1), ("truth", 2)])) .nil)⟩
def d_kept : Df := ⟨2, 4, (.cons (.ret (.cal "not_false" (.cons (.com (.tp [2, 3]) (.seq (.var 0)) .nil (.tup (.cons (.var 2) (.cons (.cal "of_both" (.cons (.var 3) (.cons (.cal "truth_of" (.cons (.var 1) (.cons (.var 2) .nil))) .nil))) .nil))) [("row", 2), ("truth", 3)]) .nil))) .nil)⟩
def d_picked : Df := ⟨2, 5, (.cons (.ret (.com (.tp [2, 3]) (.seq (.var 0)) .nil (.tup (.cons (.bl1 .tuple (.com (.nm 4) (.seq (.var 1)) .nil (.sub (.var 2) (.var 4)) [("column", 4)])) (.cons (.var 3) .nil))) [("row", 2), ("truth", 3)])) .nil)⟩
def d_pairs_hold : Df := ⟨3, 6, (.cons (.asg 3 (.kon (.bool true))) (.cons (.lop (.tp [4, 5]) (.seq (.var 2)) (.cons (.asg 3 (.cal "of_both" (.cons (.var 3) (.cons (.cal "same" (.cons (.sub (.var 0) (.var 4)) (.cons (.sub (.var 1) (.var 5)) .nil))) .nil)))) .nil)) (.cons (.mov 3) .nil)))⟩
def d_joined : Df := ⟨3, 9, (.cons (.asg 3 (.lst .nil)) (.cons (.lop (.tp [4, 5]) (.seq (.var 0)) (.cons (.lop (.tp [6, 7]) (.seq (.var 1)) (.cons (.asg 8 (.cal "of_both" (.cons (.cal "of_both" (.cons (.var 5) (.cons (.var 7) .nil))) (.cons (.cal "pairs_hold" (.cons (.var 4) (.cons (.var 6) (.cons (.var 2) .nil)))) .nil)))) (.cons (.iff (.cmp .isnot (.var 8) (.kon (.bool false))) (.cons (.exp (.mut .append 3 (.cons (.tup (.cons (.bin .add (.var 4) (.var 6)) (.cons (.var 8) .nil))) .nil))) .nil) .nil) .nil))) .nil)) (.cons (.mov 3) .nil)))⟩
def d_is_among : Df := ⟨2, 5, (.cons (.asg 2 (.kon (.bool false))) (.cons (.lop (.tp [3, 4]) (.seq (.var 1)) (.cons (.asg 2 (.cal "of_either" (.cons (.var 2) (.cons (.cal "of_both" (.cons (.var 4) (.cons (.cal "same_cells" (.cons (.var 0) (.cons (.var 3) .nil))) .nil))) .nil)))) .nil)) (.cons (.mov 2) .nil)))⟩
def d_left_without : Df := ⟨2, 4, (.cons (.ret (.cal "not_false" (.cons (.com (.tp [2, 3]) (.seq (.var 0)) .nil (.tup (.cons (.var 2) (.cons (.cal "of_both" (.cons (.var 3) (.cons (.cal "opposite" (.cons (.cal "is_among" (.cons (.var 2) (.cons (.var 1) .nil))) .nil)) .nil))) .nil))) [("row", 2), ("truth", 3)]) .nil))) .nil)⟩
def d_rows_told : Df := ⟨2, 6, (.cons (.asg 2 (.sub (.var 0) (.kon (.int 0)))) (.cons (.iff (.cmp .eq (.var 2) (.kon (.str "rows"))) (.cons (.ret (.com (.nm 5) (.seq (.sub (.sub (.var 1) (.sub (.var 0) (.kon (.int 1)))) (.kon (.int 1)))) .nil (.tup (.cons (.var 5) (.cons (.kon (.bool true)) .nil))) [("row", 5)])) .nil) .nil) (.cons (.asg 3 (.cal "rows_told" (.cons (.sub (.var 0) (.kon (.int 1))) (.cons (.var 1) .nil)))) (.cons (.iff (.cmp .eq (.var 2) (.kon (.str "keep"))) (.cons (.ret (.cal "kept" (.cons (.var 3) (.cons (.sub (.var 0) (.kon (.int 2))) .nil)))) .nil) .nil) (.cons (.iff (.cmp .eq (.var 2) (.kon (.str "pick"))) (.cons (.ret (.cal "picked" (.cons (.var 3) (.cons (.sub (.var 0) (.kon (.int 2))) .nil)))) .nil) .nil) (.cons (.asg 4 (.cal "rows_told" (.cons (.sub (.var 0) (.kon (.int 2))) (.cons (.var 1) .nil)))) (.cons (.iff (.cmp .eq (.var 2) (.kon (.str "join"))) (.cons (.ret (.cal "joined" (.cons (.var 3) (.cons (.var 4) (.cons (.sub (.var 0) (.kon (.int 3))) .nil))))) .nil) .nil) (.cons (.iff (.cmp .eq (.var 2) (.kon (.str "both"))) (.cons (.ret (.bin .add (.var 3) (.var 4))) .nil) .nil) (.cons (.ret (.cal "left_without" (.cons (.var 3) (.cons (.var 4) .nil)))) .nil)))))))))⟩
def d_run : Df := ⟨2, 4, (.cons (.exp (.cal "check_over_tables" (.cons (.var 0) (.cons (.var 1) .nil)))) (.cons (.ret (.com (.tp [2, 3]) (.seq (.cal "rows_told" (.cons (.var 0) (.cons (.var 1) .nil)))) .nil (.tup (.cons (.var 2) (.cons (.ite (.var 3) (.kon (.str "sure")) (.kon (.str "maybe"))) .nil))) [("row", 2), ("truth", 3)])) .nil))⟩
def d_three : Df := ⟨2, 2, (.cons (.exp (.cal "check_row" (.cons (.var 1) .nil))) (.cons (.exp (.cal "check_condition" (.cons (.var 0) (.cons (.bl1 .len (.var 1)) .nil)))) (.cons (.ret (.cal "truth_of" (.cons (.var 0) (.cons (.var 1) .nil)))) .nil)))⟩
def d__law_dice : Df := ⟨1, 3, (.cons (.asg 1 (.kon (.int 0))) (.cons (.lop (.nm 2) (.seq (.var 0)) (.cons (.asg 1 (.bin .mod (.bin .add (.bin .add (.bin .mul (.var 1) (.kon (.int 48271))) (.bin .mul (.bin .mod (.var 2) (.kon (.int 2147483647))) (.kon (.int 69621)))) (.kon (.int 11))) (.kon (.int 2147483647)))) .nil)) (.cons (.ret (.lst (.cons (.var 0) (.cons (.kon (.int 0)) (.cons (.bin .mul (.var 1) (.bl1 .int (.cmp .gt (.bl1 .len (.var 0)) (.kon (.int 2))))) (.cons (.kon (.int 0)) .nil)))))) .nil)))⟩
def d__law_next : Df := ⟨2, 4, (.cons (.iff (.cmp .gt (.sub (.var 0) (.kon (.int 3))) (.kon (.int 0))) (.cons (.asg 2 (.bin .mod (.sub (.var 0) (.kon (.int 3))) (.var 1))) (.cons (.sto 0 (.kon (.int 3)) (.bin .div (.sub (.var 0) (.kon (.int 3))) (.var 1))) (.cons (.mov 2) .nil))) .nil) (.cons (.sto 0 (.kon (.int 1)) (.bin .add (.sub (.var 0) (.kon (.int 1))) (.kon (.int 1)))) (.cons (.iff (.cmp .le (.sub (.var 0) (.kon (.int 1))) (.bl1 .len (.sub (.var 0) (.kon (.int 0))))) (.cons (.asg 3 (.sub (.sub (.var 0) (.kon (.int 0))) (.bin .sub (.sub (.var 0) (.kon (.int 1))) (.kon (.int 1))))) (.cons (.sto 0 (.kon (.int 3)) (.ite (.cmp .ge (.var 3) (.bin .pow (.kon (.int 10)) (.kon (.int 18)))) (.bin .div (.var 3) (.var 1)) (.kon (.int 0)))) (.cons (.ret (.bin .mod (.var 3) (.var 1))) .nil))) .nil) (.cons (.sto 0 (.kon (.int 2)) (.bin .mod (.bin .mul (.sub (.var 0) (.kon (.int 2))) (.kon (.int 48271))) (.kon (.int 2147483647)))) (.cons (.ret (.bin .mod (.bin .div (.sub (.var 0) (.kon (.int 2))) (.kon (.int 7))) (.var 1))) .nil)))))⟩
def d__law_like : Df := ⟨2, 3, (.cons (.iff (.isi .bool (.var 1)) (.cons (.ret (.bls true (.cons (.isi .bool (.var 0)) (.cons (.cmp .eq (.var 0) (.var 1)) .nil)))) .nil) .nil) (.cons (.iff (.isi .str (.var 1)) (.cons (.ret (.bls true (.cons (.isi .str (.var 0)) (.cons (.cmp .eq (.var 0) (.var 1)) .nil)))) .nil) .nil) (.cons (.iff (.isi .int (.var 1)) (.cons (.ret (.bls true (.cons (.isi .int (.var 0)) (.cons (.not (.isi .bool (.var 0))) (.cons (.cmp .eq (.var 0) (.var 1)) .nil))))) .nil) .nil) (.cons (.iff (.cmp .is (.var 1) (.kon .none)) (.cons (.ret (.cmp .is (.var 0) (.kon .none))) .nil) .nil) (.cons (.iff (.bls false (.cons (.cmp .ne (.isi .tuple (.var 1)) (.isi .tuple (.var 0))) (.cons (.cmp .ne (.isi .list (.var 1)) (.isi .list (.var 0))) .nil))) (.cons (.ret (.kon (.bool false))) .nil) .nil) (.cons (.iff (.cmp .ne (.bl1 .len (.var 0)) (.bl1 .len (.var 1))) (.cons (.ret (.kon (.bool false))) .nil) .nil) (.cons (.lop (.nm 2) (.rn1 (.bl1 .len (.var 1))) (.cons (.iff (.not (.cal "_law_like" (.cons (.sub (.var 0) (.var 2)) (.cons (.sub (.var 1) (.var 2)) .nil)))) (.cons (.ret (.kon (.bool false))) .nil) .nil) .nil)) (.cons (.ret (.kon (.bool true))) .nil))))))))⟩
def d__law_cell : Df := ⟨2, 3, (.cons (.asg 2 (.cal "_law_next" (.cons (.var 0) (.cons (.kon (.int 8)) .nil)))) (.cons (.iff (.cmp .lt (.var 2) (.kon (.int 4))) (.cons (.ret (.cal "_law_next" (.cons (.var 0) (.cons (.kon (.int 3)) .nil)))) .nil) .nil) (.cons (.iff (.cmp .eq (.var 2) (.kon (.int 4))) (.cons (.ret (.sub (.lst (.cons (.cal "_law_next" (.cons (.var 0) (.cons (.kon (.int 100)) .nil))) (.cons (.kon (.int 99)) (.cons (.kon (.int 3)) .nil)))) (.cal "_law_next" (.cons (.var 0) (.cons (.kon (.int 3)) .nil))))) .nil) .nil) (.cons (.ret (.tup (.cons (.kon (.str "gap")) (.cons (.sub (.var 1) (.cal "_law_next" (.cons (.var 0) (.cons (.bl1 .len (.var 1)) .nil)))) .nil)))) .nil))))⟩
def d__law_tables : Df := ⟨3, 12, (.cons (.asg 3 (.lrg (.kon (.int 10)))) (.cons (.asg 4 (.com (.nm 10) (.rn1 (.bin .add (.kon (.int 1)) (.cal "_law_next" (.cons (.var 0) (.cons (.var 1) .nil))))) .nil (.mut .pop 3 (.cons (.cal "_law_next" (.cons (.var 0) (.cons (.bl1 .len (.var 3)) .nil))) .nil)) [("_law_k", 10)])) (.cons (.asg 5 (.lst .nil)) (.cons (.lop (.nm 6) (.rn1 (.bin .add (.kon (.int 1)) (.cal "_law_next" (.cons (.var 0) (.cons (.kon (.int 3)) .nil))))) (.cons (.asg 7 (.bin .add (.kon (.int 1)) (.cal "_law_next" (.cons (.var 0) (.cons (.sub (.lst (.cons (.kon (.int 2)) (.cons (.kon (.int 4)) .nil))) (.cal "_law_next" (.cons (.var 0) (.cons (.kon (.int 2)) .nil)))) .nil))))) (.cons (.asg 8 (.lst .nil)) (.cons (.lop (.nm 9) (.rn1 (.cal "_law_next" (.cons (.var 0) (.cons (.bin .add (.var 2) (.kon (.int 1))) .nil)))) (.cons (.asg 11 (.bl1 .tuple (.com (.nm 10) (.rn1 (.var 7)) .nil (.cal "_law_cell" (.cons (.var 0) (.cons (.var 4) .nil))) [("_law_k", 10)]))) (.cons (.exp (.mut .append 8 (.cons (.ite (.bls true (.cons (.cmp .ne (.var 8) (.lst .nil)) (.cons (.cmp .eq (.cal "_law_next" (.cons (.var 0) (.cons (.kon (.int 5)) .nil))) (.kon (.int 0))) .nil))) (.sub (.var 8) (.cal "_law_next" (.cons (.var 0) (.cons (.bl1 .len (.var 8)) .nil)))) (.var 11)) .nil))) .nil))) (.cons (.exp (.mut .append 5 (.cons (.tup (.cons (.var 7) (.cons (.var 8) .nil))) .nil))) .nil))))) (.cons (.mov 5) .nil)))))⟩
def d__law_part : Df := ⟨3, 4, (.cons (.asg 3 (.cal "_law_next" (.cons (.var 0) (.cons (.kon (.int 8)) .nil)))) (.cons (.iff (.bls false (.cons (.cmp .lt (.var 3) (.kon (.int 5))) (.cons (.bls true (.cons (.cmp .eq (.var 2) (.kon (.int 0))) (.cons (.cmp .gt (.var 3) (.kon (.int 6))) .nil))) .nil))) (.cons (.ret (.tup (.cons (.kon (.str "col")) (.cons (.cal "_law_next" (.cons (.var 0) (.cons (.var 1) .nil))) .nil)))) .nil) .nil) (.cons (.iff (.cmp .lt (.var 3) (.kon (.int 7))) (.cons (.ret (.tup (.cons (.kon (.str "num")) (.cons (.sub (.lst (.cons (.cal "_law_next" (.cons (.var 0) (.cons (.kon (.int 4)) .nil))) (.cons (.cal "_law_next" (.cons (.var 0) (.cons (.kon (.int 100)) .nil))) .nil))) (.bl1 .int (.cmp .eq (.cal "_law_next" (.cons (.var 0) (.cons (.kon (.int 6)) .nil))) (.kon (.int 5))))) .nil)))) .nil) .nil) (.cons (.ret (.tup (.cons (.sub (.lst (.cons (.kon (.str "plus")) (.cons (.kon (.str "take")) .nil))) (.cal "_law_next" (.cons (.var 0) (.cons (.kon (.int 2)) .nil)))) (.cons (.cal "_law_part" (.cons (.var 0) (.cons (.var 1) (.cons (.bin .sub (.var 2) (.kon (.int 1))) .nil)))) (.cons (.cal "_law_part" (.cons (.var 0) (.cons (.var 1) (.cons (.bin .sub (.var 2) (.kon (.int 1))) .nil)))) .nil))))) .nil))))⟩
def d__law_condition : Df := ⟨4, 7, (.cons (.asg 4 (.cal "_law_next" (.cons (.var 0) (.cons (.kon (.int 9)) .nil)))) (.cons (.asg 5 (.sub (.lst (.cons (.kon (.int 1)) (.cons (.kon (.int 1)) (.cons (.kon (.int 1)) (.cons (.kon (.int 3)) .nil))))) (.cal "_law_next" (.cons (.var 0) (.cons (.kon (.int 4)) .nil))))) (.cons (.iff (.bls false (.cons (.cmp .eq (.var 2) (.kon (.int 0))) (.cons (.cmp .lt (.var 4) (.kon (.int 4))) .nil))) (.cons (.iff (.bls true (.cons (.not (.var 3)) (.cons (.cmp .eq (.cal "_law_next" (.cons (.var 0) (.cons (.kon (.int 5)) .nil))) (.kon (.int 0))) .nil))) (.cons (.ret (.tup (.cons (.kon (.str "lacks")) (.cons (.cal "_law_part" (.cons (.var 0) (.cons (.var 1) (.cons (.var 5) .nil)))) .nil)))) .nil) .nil) (.cons (.asg 6 (.sub (.lst (.cons (.kon (.str "is")) (.cons (.kon (.str "less")) .nil))) (.cal "_law_next" (.cons (.var 0) (.cons (.kon (.int 2)) .nil))))) (.cons (.ret (.tup (.cons (.var 6) (.cons (.cal "_law_part" (.cons (.var 0) (.cons (.var 1) (.cons (.var 5) .nil)))) (.cons (.cal "_law_part" (.cons (.var 0) (.cons (.var 1) (.cons (.var 5) .nil)))) .nil))))) .nil))) .nil) (.cons (.iff (.bls false (.cons (.cmp .lt (.var 4) (.kon (.int 6))) (.cons (.bls true (.cons (.cmp .eq (.var 4) (.kon (.int 6))) (.cons (.var 3) .nil))) .nil))) (.cons (.ret (.tup (.cons (.kon (.str "not")) (.cons (.cal "_law_condition" (.cons (.var 0) (.cons (.var 1) (.cons (.bin .sub (.var 2) (.kon (.int 1))) (.cons (.var 3) .nil))))) .nil)))) .nil) .nil) (.cons (.iff (.cmp .eq (.var 4) (.kon (.int 6))) (.cons (.ret (.tup (.cons (.kon (.str "true")) (.cons (.cal "_law_condition" (.cons (.var 0) (.cons (.var 1) (.cons (.bin .sub (.var 2) (.kon (.int 1))) (.cons (.var 3) .nil))))) .nil)))) .nil) .nil) (.cons (.asg 6 (.sub (.lst (.cons (.kon (.str "and")) (.cons (.kon (.str "or")) .nil))) (.bin .sub (.var 4) (.kon (.int 7))))) (.cons (.ret (.tup (.cons (.var 6) (.cons (.cal "_law_condition" (.cons (.var 0) (.cons (.var 1) (.cons (.bin .sub (.var 2) (.kon (.int 1))) (.cons (.var 3) .nil))))) (.cons (.cal "_law_condition" (.cons (.var 0) (.cons (.var 1) (.cons (.bin .sub (.var 2) (.kon (.int 1))) (.cons (.var 3) .nil))))) .nil))))) .nil)))))))⟩
def d__law_things : Df := ⟨1, 3, (.cons (.asg 1 (.kon (.int 1))) (.cons (.lop (.nm 2) (.seq (.slc (.var 0) (.cons (.kon (.int 1)) .nil) .nil)) (.cons (.iff (.bls true (.cons (.isi .tuple (.var 2)) (.cons (.cmp .ne (.var 2) (.tup .nil)) (.cons (.isi .str (.sub (.var 2) (.kon (.int 0)))) .nil)))) (.cons (.asg 1 (.bin .add (.var 1) (.cal "_law_things" (.cons (.var 2) .nil)))) .nil) .nil) .nil)) (.cons (.mov 1) .nil)))⟩
def d__law_modest : Df := ⟨4, 5, (.cons (.asg 4 (.cal "_law_condition" (.cons (.var 0) (.cons (.var 1) (.cons (.var 2) (.cons (.kon (.bool false)) .nil)))))) (.cons (.whl (.cmp .gt (.cal "_law_things" (.cons (.var 4) .nil)) (.var 3)) (.cons (.asg 4 (.ite (.cmp .isin (.sub (.var 4) (.kon (.int 0))) (.tup (.cons (.kon (.str "not")) (.cons (.kon (.str "true")) (.cons (.kon (.str "and")) (.cons (.kon (.str "or")) .nil)))))) (.sub (.var 4) (.kon (.int 1))) (.tup (.cons (.kon (.str "less")) (.cons (.tup (.cons (.kon (.str "col")) (.cons (.bin .sub (.var 1) (.kon (.int 1))) .nil))) (.cons (.tup (.cons (.kon (.str "num")) (.cons (.kon (.int 2)) .nil))) .nil)))))) .nil)) (.cons (.mov 4) .nil)))⟩
def d__law_sized : Df := ⟨5, 8, (.cons (.unp [5, 6] (.cal "_law_any" (.cons (.var 0) (.cons (.var 4) (.cons (.var 2) (.cons (.var 3) .nil)))))) (.cons (.iff (.cmp .eq (.var 6) (.var 1)) (.cons (.mov 5) .nil) .nil) (.cons (.ret (.tup (.cons (.kon (.str "pick")) (.cons (.var 5) (.cons (.bl1 .tuple (.com (.nm 7) (.rn1 (.var 1)) .nil (.cal "_law_next" (.cons (.var 0) (.cons (.var 6) .nil))) [("_law_k", 7)])) .nil))))) .nil)))⟩
def d__law_any : Df := ⟨4, 14, (.cons (.asg 4 (.cal "_law_next" (.cons (.var 0) (.cons (.kon (.int 8)) .nil)))) (.cons (.iff (.bls false (.cons (.cmp .eq (.var 2) (.kon (.int 0))) (.cons (.cmp .eq (.var 4) (.kon (.int 0))) .nil))) (.cons (.asg 6 (.cal "_law_next" (.cons (.var 0) (.cons (.bl1 .len (.var 1)) .nil)))) (.cons (.ret (.tup (.cons (.tup (.cons (.kon (.str "rows")) (.cons (.var 6) .nil))) (.cons (.sub (.var 1) (.var 6)) .nil)))) .nil)) .nil) (.cons (.unp [7, 8] (.cal "_law_any" (.cons (.var 0) (.cons (.var 1) (.cons (.bin .sub (.var 2) (.kon (.int 1))) (.cons (.var 3) .nil)))))) (.cons (.iff (.cmp .lt (.var 4) (.kon (.int 3))) (.cons (.ret (.tup (.cons (.tup (.cons (.kon (.str "keep")) (.cons (.var 7) (.cons (.cal "_law_condition" (.cons (.var 0) (.cons (.var 8) (.cons (.kon (.int 2)) (.cons (.var 3) .nil))))) .nil)))) (.cons (.var 8) .nil)))) .nil) .nil) (.cons (.iff (.cmp .eq (.var 4) (.kon (.int 3))) (.cons (.asg 9 (.bin .add (.kon (.int 1)) (.cal "_law_next" (.cons (.var 0) (.cons (.kon (.int 3)) .nil))))) (.cons (.ret (.tup (.cons (.tup (.cons (.kon (.str "pick")) (.cons (.var 7) (.cons (.bl1 .tuple (.com (.nm 13) (.rn1 (.var 9)) .nil (.cal "_law_next" (.cons (.var 0) (.cons (.var 8) .nil))) [("_law_k", 13)])) .nil)))) (.cons (.var 9) .nil)))) .nil)) .nil) (.cons (.iff (.bls true (.cons (.cmp .lt (.var 4) (.kon (.int 6))) (.cons (.cmp .lt (.var 8) (.kon (.int 5))) .nil))) (.cons (.unp [10, 11] (.cal "_law_any" (.cons (.var 0) (.cons (.var 1) (.cons (.bin .sub (.var 2) (.kon (.int 1))) (.cons (.var 3) .nil)))))) (.cons (.iff (.cmp .le (.bin .add (.var 11) (.var 8)) (.kon (.int 8))) (.cons (.asg 12 (.com (.nm 13) (.rn1 (.cal "_law_next" (.cons (.var 0) (.cons (.kon (.int 5)) .nil)))) .nil (.tup (.cons (.cal "_law_next" (.cons (.var 0) (.cons (.var 8) .nil))) (.cons (.cal "_law_next" (.cons (.var 0) (.cons (.var 11) .nil))) .nil))) [("_law_k", 13)])) (.cons (.ret (.tup (.cons (.tup (.cons (.kon (.str "join")) (.cons (.var 7) (.cons (.var 10) (.cons (.bl1 .tuple (.var 12)) .nil))))) (.cons (.bin .add (.var 8) (.var 11)) .nil)))) .nil)) .nil) .nil)) .nil) (.cons (.asg 5 (.sub (.lst (.cons (.kon (.str "both")) (.cons (.kon (.str "without")) .nil))) (.bin .mod (.var 4) (.kon (.int 2))))) (.cons (.ret (.tup (.cons (.tup (.cons (.var 5) (.cons (.var 7) (.cons (.cal "_law_sized" (.cons (.var 0) (.cons (.var 8) (.cons (.bin .sub (.var 2) (.kon (.int 1))) (.cons (.var 3) (.cons (.var 1) .nil)))))) .nil)))) (.cons (.var 8) .nil)))) .nil))))))))⟩
def d__law_many : Df := ⟨2, 4, (.cons (.iff (.cmp .eq (.sub (.var 0) (.kon (.int 0))) (.kon (.str "rows"))) (.cons (.ret (.bl1 .len (.sub (.sub (.var 1) (.sub (.var 0) (.kon (.int 1)))) (.kon (.int 1))))) .nil) .nil) (.cons (.asg 2 (.cal "_law_many" (.cons (.sub (.var 0) (.kon (.int 1))) (.cons (.var 1) .nil)))) (.cons (.iff (.cmp .isin (.sub (.var 0) (.kon (.int 0))) (.tup (.cons (.kon (.str "keep")) (.cons (.kon (.str "pick")) .nil)))) (.cons (.mov 2) .nil) .nil) (.cons (.asg 3 (.cal "_law_many" (.cons (.sub (.var 0) (.kon (.int 2))) (.cons (.var 1) .nil)))) (.cons (.iff (.cmp .eq (.sub (.var 0) (.kon (.int 0))) (.kon (.str "without"))) (.cons (.ret (.bln .max (.cons (.var 2) (.cons (.var 3) .nil)))) .nil) .nil) (.cons (.ret (.bln .max (.cons (.var 2) (.cons (.var 3) (.cons (.ite (.cmp .eq (.sub (.var 0) (.kon (.int 0))) (.kon (.str "both"))) (.bin .add (.var 2) (.var 3)) (.bin .mul (.var 2) (.var 3))) .nil))))) .nil))))))⟩
def d__law_sentence : Df := ⟨4, 7, (.cons (.asg 4 (.com (.nm 6) (.seq (.var 1)) .nil (.sub (.var 6) (.kon (.int 0))) [("_law_table", 6)])) (.cons (.asg 5 (.sub (.cal "_law_any" (.cons (.var 0) (.cons (.var 4) (.cons (.var 2) (.cons (.var 3) .nil))))) (.kon (.int 0)))) (.cons (.whl (.bls false (.cons (.cmp .gt (.cal "_law_things" (.cons (.var 5) .nil)) (.kon (.int 60))) (.cons (.cmp .gt (.cal "_law_many" (.cons (.var 5) (.cons (.var 1) .nil))) (.kon (.int 60))) .nil))) (.cons (.asg 5 (.sub (.var 5) (.kon (.int 1)))) .nil)) (.cons (.mov 5) .nil))))⟩
def d__law_is_number : Df := ⟨1, 1, (.cons (.ret (.isi .int (.var 0))) .nil)⟩
def d__law_worth : Df := ⟨2, 5, (.cons (.iff (.cmp .isin (.sub (.var 0) (.kon (.int 0))) (.tup (.cons (.kon (.str "col")) (.cons (.kon (.str "num")) .nil)))) (.cons (.ret (.ite (.cmp .eq (.sub (.var 0) (.kon (.int 0))) (.kon (.str "col"))) (.sub (.var 1) (.sub (.var 0) (.kon (.int 1)))) (.sub (.var 0) (.kon (.int 1))))) .nil) .nil) (.cons (.asg 2 (.com (.nm 3) (.seq (.slc (.var 0) (.cons (.kon (.int 1)) .nil) .nil)) .nil (.cal "_law_worth" (.cons (.var 3) (.cons (.var 1) .nil))) [("_law_inner", 3)])) (.cons (.iff (.cmp .ne (.com (.nm 4) (.seq (.var 2)) (.cons (.not (.cal "_law_is_number" (.cons (.var 4) .nil))) .nil) (.var 4) [("_law_one", 4)]) (.lst .nil)) (.cons (.ret (.kon .none)) .nil) .nil) (.cons (.ret (.bin .add (.sub (.var 2) (.kon (.int 0))) (.bin .mul (.sub (.var 2) (.kon (.int 1))) (.sub (.lst (.cons (.kon (.int 1)) (.cons (.neg (.kon (.int 1))) .nil))) (.bl1 .int (.cmp .eq (.sub (.var 0) (.kon (.int 0))) (.kon (.str "take")))))))) .nil))))⟩
def d__law_held : Df := ⟨3, 3, (.cons (.iff (.bls true (.cons (.cal "_law_is_number" (.cons (.var 1) .nil)) (.cons (.cal "_law_is_number" (.cons (.var 2) .nil)) .nil))) (.cons (.ret (.bin .mul (.kon (.int 2)) (.bl1 .int (.ite (.cmp .eq (.var 0) (.kon (.str "is"))) (.cmp .eq (.var 1) (.var 2)) (.cmp .lt (.var 1) (.var 2)))))) .nil) .nil) (.cons (.iff (.bls true (.cons (.isi .tuple (.var 1)) (.cons (.cmp .eq (.var 1) (.var 2)) .nil))) (.cons (.ret (.bin .mul (.kon (.int 2)) (.bl1 .int (.cmp .eq (.var 0) (.kon (.str "is")))))) .nil) .nil) (.cons (.ret (.kon (.int 1))) .nil)))⟩
def d__law_truth : Df := ⟨2, 5, (.cons (.asg 2 (.sub (.var 0) (.kon (.int 0)))) (.cons (.iff (.cmp .isin (.var 2) (.tup (.cons (.kon (.str "is")) (.cons (.kon (.str "less")) .nil)))) (.cons (.ret (.cal "_law_held" (.cons (.var 2) (.cons (.cal "_law_worth" (.cons (.sub (.var 0) (.kon (.int 1))) (.cons (.var 1) .nil))) (.cons (.cal "_law_worth" (.cons (.sub (.var 0) (.kon (.int 2))) (.cons (.var 1) .nil))) .nil))))) .nil) .nil) (.cons (.iff (.cmp .eq (.var 2) (.kon (.str "lacks"))) (.cons (.ret (.bin .mul (.kon (.int 2)) (.bl1 .int (.not (.cal "_law_is_number" (.cons (.cal "_law_worth" (.cons (.sub (.var 0) (.kon (.int 1))) (.cons (.var 1) .nil))) .nil)))))) .nil) .nil) (.cons (.asg 3 (.com (.nm 4) (.seq (.slc (.var 0) (.cons (.kon (.int 1)) .nil) .nil)) .nil (.cal "_law_truth" (.cons (.var 4) (.cons (.var 1) .nil))) [("_law_inner", 4)])) (.cons (.iff (.cmp .isin (.var 2) (.tup (.cons (.kon (.str "not")) (.cons (.kon (.str "true")) .nil)))) (.cons (.ret (.ite (.cmp .eq (.var 2) (.kon (.str "not"))) (.bin .sub (.kon (.int 2)) (.sub (.var 3) (.kon (.int 0)))) (.bin .mul (.kon (.int 2)) (.bin .div (.sub (.var 3) (.kon (.int 0))) (.kon (.int 2)))))) .nil) .nil) (.cons (.ret (.ite (.cmp .eq (.var 2) (.kon (.str "and"))) (.bl1 .min (.var 3)) (.bl1 .max (.var 3)))) .nil))))))⟩
def d__law_rows : Df := ⟨2, 8, (.cons (.asg 2 (.sub (.var 0) (.kon (.int 0)))) (.cons (.iff (.cmp .eq (.var 2) (.kon (.str "rows"))) (.cons (.ret (.com (.nm 5) (.seq (.sub (.sub (.var 1) (.sub (.var 0) (.kon (.int 1)))) (.kon (.int 1)))) .nil (.lst (.cons (.var 5) (.cons (.kon (.int 2)) .nil))) [("_law_row", 5)])) .nil) .nil) (.cons (.asg 3 (.cal "_law_rows" (.cons (.sub (.var 0) (.kon (.int 1))) (.cons (.var 1) .nil)))) (.cons (.iff (.cmp .eq (.var 2) (.kon (.str "keep"))) (.cons (.asg 3 (.com (.tp [5, 6]) (.seq (.var 3)) .nil (.lst (.cons (.var 5) (.cons (.bln .min (.cons (.var 6) (.cons (.cal "_law_truth" (.cons (.sub (.var 0) (.kon (.int 2))) (.cons (.var 5) .nil))) .nil))) .nil))) [("_law_row", 5), ("_law_truth_here", 6)])) .nil) (.cons (.iff (.cmp .eq (.var 2) (.kon (.str "pick"))) (.cons (.asg 3 (.com (.tp [5, 6]) (.seq (.var 3)) .nil (.lst (.cons (.bl1 .tuple (.com (.nm 7) (.seq (.sub (.var 0) (.kon (.int 2)))) .nil (.sub (.var 5) (.var 7)) [("_law_k", 7)])) (.cons (.var 6) .nil))) [("_law_row", 5), ("_law_truth_here", 6)])) .nil) (.cons (.asg 3 (.cal "_law_two" (.cons (.var 2) (.cons (.var 3) (.cons (.cal "_law_rows" (.cons (.sub (.var 0) (.kon (.int 2))) (.cons (.var 1) .nil))) (.cons (.slc (.var 0) (.cons (.kon (.int 3)) .nil) .nil) .nil)))))) .nil)) .nil)) (.cons (.ret (.com (.nm 4) (.seq (.var 3)) (.cons (.cmp .gt (.sub (.var 4) (.kon (.int 1))) (.kon (.int 0))) .nil) (.var 4) [("_law_pair", 4)])) .nil)))))⟩
def d__law_two : Df := ⟨4, 16, (.cons (.iff (.cmp .eq (.var 0) (.kon (.str "both"))) (.cons (.ret (.bin .add (.var 1) (.var 2))) .nil) .nil) (.cons (.asg 4 (.lst .nil)) (.cons (.lop (.tp [5, 6]) (.seq (.var 1)) (.cons (.asg 7 (.kon (.int 0))) (.cons (.lop (.tp [8, 9]) (.seq (.var 2)) (.cons (.asg 10 (.com (.tp [12, 13]) (.zip (.cons (.var 5) (.cons (.var 8) .nil))) .nil (.cal "_law_held" (.cons (.kon (.str "is")) (.cons (.var 12) (.cons (.var 13) .nil)))) [("_law_a", 12), ("_law_b", 13)])) (.cons (.iff (.cmp .eq (.var 0) (.kon (.str "without"))) (.cons (.asg 7 (.bln .max (.cons (.var 7) (.cons (.bl1 .min (.bin .add (.var 10) (.lst (.cons (.var 9) .nil)))) .nil)))) .nil) (.cons (.asg 11 (.com (.tp [14, 15]) (.seq (.sub (.var 3) (.kon (.int 0)))) .nil (.cal "_law_held" (.cons (.kon (.str "is")) (.cons (.sub (.var 5) (.var 14)) (.cons (.sub (.var 8) (.var 15)) .nil)))) [("_law_i", 14), ("_law_j", 15)])) (.cons (.exp (.mut .append 4 (.cons (.lst (.cons (.bin .add (.var 5) (.var 8)) (.cons (.bl1 .min (.bin .add (.var 11) (.lst (.cons (.var 6) (.cons (.var 9) .nil))))) .nil))) .nil))) .nil))) .nil))) (.cons (.iff (.cmp .eq (.var 0) (.kon (.str "without"))) (.cons (.exp (.mut .append 4 (.cons (.lst (.cons (.var 5) (.cons (.bln .min (.cons (.var 6) (.cons (.bin .sub (.kon (.int 2)) (.var 7)) .nil))) .nil))) .nil))) .nil) .nil) .nil)))) (.cons (.mov 4) .nil))))⟩
def d_check_top : Df := ⟨2, 2, (.cons (.iff (.not (.cal "is_within" (.cons (.var 0) (.cons (.kon (.int 0)) (.cons (.var 1) .nil))))) (.cons .nev .nil) .nil) .nil)⟩
def d_one_of_each : Df := ⟨1, 5, (.cons (.asg 1 (.lst (.cons (.tup .nil) .nil))) (.cons (.lop (.nm 2) (.seq (.var 0)) (.cons (.asg 1 (.co2 (.nm 3) (.seq (.var 1)) (.nm 4) (.seq (.var 2)) (.bin .add (.var 3) (.tup (.cons (.var 4) .nil))) [("ahead", 3), ("thing", 4)] [4])) .nil)) (.cons (.mov 1) .nil)))⟩
def d_cells_to : Df := ⟨1, 1, (.cons (.ret (.bin .add (.lst (.cons (.tup (.cons (.kon (.str "gap")) (.cons (.kon (.int 0)) .nil))) (.cons (.tup (.cons (.kon (.str "gap")) (.cons (.kon (.int 1)) .nil))) .nil))) (.lrg (.bin .add (.var 0) (.kon (.int 1)))))) .nil)⟩
def d_parted : Df := ⟨4, 5, (.cons (.exp (.cal "check_condition" (.cons (.var 0) (.cons (.var 2) .nil)))) (.cons (.exp (.cal "check_condition" (.cons (.var 1) (.cons (.var 2) .nil)))) (.cons (.exp (.cal "check_top" (.cons (.var 3) (.cons (.glb 11) .nil)))) (.cons (.lop (.nm 4) (.seq (.cal "one_of_each" (.cons (.bin .mul (.lst (.cons (.cal "cells_to" (.cons (.var 3) .nil)) .nil)) (.var 2)) .nil))) (.cons (.iff (.cmp .ne (.cal "truth_of" (.cons (.var 0) (.cons (.var 4) .nil))) (.cal "truth_of" (.cons (.var 1) (.cons (.var 4) .nil)))) (.cons (.mov 4) .nil) .nil) .nil)) (.cons (.ret (.kon .none)) .nil)))))⟩
class K0 (T : Tb) : Prop where
  eq0 : ∀ n, den (mdOf T n) (.glb 0) = pur (.dat (.int 9))
@[simp] theorem glb_0 {T : Tb} [h : K0 T] (n : Nat) : den (mdOf T n) (.glb 0) = pur (.dat (.int 9)) := h.eq0 n
class K1 (T : Tb) : Prop where
  eq1 : ∀ n, den (mdOf T n) (.glb 1) = pur (.dat (.int 99))
@[simp] theorem glb_1 {T : Tb} [h : K1 T] (n : Nat) : den (mdOf T n) (.glb 1) = pur (.dat (.int 99)) := h.eq1 n
class K2 (T : Tb) : Prop where
  eq2 : ∀ n, den (mdOf T n) (.glb 2) = pur (.dat (.int 8))
@[simp] theorem glb_2 {T : Tb} [h : K2 T] (n : Nat) : den (mdOf T n) (.glb 2) = pur (.dat (.int 8)) := h.eq2 n
class K3 (T : Tb) : Prop where
  eq3 : ∀ n, den (mdOf T n) (.glb 3) = pur (.dat (.tuple [(.tuple [(.str "col"), (.int 1)]), (.tuple [(.str "num"), (.int 1)]), (.tuple [(.str "plus"), (.int 2)]), (.tuple [(.str "take"), (.int 2)])]))
@[simp] theorem glb_3 {T : Tb} [h : K3 T] (n : Nat) : den (mdOf T n) (.glb 3) = pur (.dat (.tuple [(.tuple [(.str "col"), (.int 1)]), (.tuple [(.str "num"), (.int 1)]), (.tuple [(.str "plus"), (.int 2)]), (.tuple [(.str "take"), (.int 2)])])) := h.eq3 n
class K4 (T : Tb) : Prop where
  eq4 : ∀ n, den (mdOf T n) (.glb 4) = pur (.dat (.tuple [(.tuple [(.str "is"), (.int 2)]), (.tuple [(.str "less"), (.int 2)]), (.tuple [(.str "lacks"), (.int 1)]), (.tuple [(.str "not"), (.int 1)]), (.tuple [(.str "true"), (.int 1)]), (.tuple [(.str "and"), (.int 2)]), (.tuple [(.str "or"), (.int 2)])]))
@[simp] theorem glb_4 {T : Tb} [h : K4 T] (n : Nat) : den (mdOf T n) (.glb 4) = pur (.dat (.tuple [(.tuple [(.str "is"), (.int 2)]), (.tuple [(.str "less"), (.int 2)]), (.tuple [(.str "lacks"), (.int 1)]), (.tuple [(.str "not"), (.int 1)]), (.tuple [(.str "true"), (.int 1)]), (.tuple [(.str "and"), (.int 2)]), (.tuple [(.str "or"), (.int 2)])])) := h.eq4 n
class K5 (T : Tb) : Prop where
  eq5 : ∀ n, den (mdOf T n) (.glb 5) = pur (.dat (.int 60))
@[simp] theorem glb_5 {T : Tb} [h : K5 T] (n : Nat) : den (mdOf T n) (.glb 5) = pur (.dat (.int 60)) := h.eq5 n
class K6 (T : Tb) : Prop where
  eq6 : ∀ n, den (mdOf T n) (.glb 6) = pur (.dat (.tuple [(.tuple [(.str "rows"), (.int 1)]), (.tuple [(.str "keep"), (.int 2)]), (.tuple [(.str "pick"), (.int 2)]), (.tuple [(.str "join"), (.int 3)]), (.tuple [(.str "both"), (.int 2)]), (.tuple [(.str "without"), (.int 2)])]))
@[simp] theorem glb_6 {T : Tb} [h : K6 T] (n : Nat) : den (mdOf T n) (.glb 6) = pur (.dat (.tuple [(.tuple [(.str "rows"), (.int 1)]), (.tuple [(.str "keep"), (.int 2)]), (.tuple [(.str "pick"), (.int 2)]), (.tuple [(.str "join"), (.int 3)]), (.tuple [(.str "both"), (.int 2)]), (.tuple [(.str "without"), (.int 2)])])) := h.eq6 n
class K7 (T : Tb) : Prop where
  eq7 : ∀ n, den (mdOf T n) (.glb 7) = pur (.dat (.int 3))
@[simp] theorem glb_7 {T : Tb} [h : K7 T] (n : Nat) : den (mdOf T n) (.glb 7) = pur (.dat (.int 3)) := h.eq7 n
class K8 (T : Tb) : Prop where
  eq8 : ∀ n, den (mdOf T n) (.glb 8) = pur (.dat (.int 4))
@[simp] theorem glb_8 {T : Tb} [h : K8 T] (n : Nat) : den (mdOf T n) (.glb 8) = pur (.dat (.int 4)) := h.eq8 n
class K9 (T : Tb) : Prop where
  eq9 : ∀ n, den (mdOf T n) (.glb 9) = pur (.dat (.int 6))
@[simp] theorem glb_9 {T : Tb} [h : K9 T] (n : Nat) : den (mdOf T n) (.glb 9) = pur (.dat (.int 6)) := h.eq9 n
class K10 (T : Tb) : Prop where
  eq10 : ∀ n, den (mdOf T n) (.glb 10) = pur (.dat (.int 9))
@[simp] theorem glb_10 {T : Tb} [h : K10 T] (n : Nat) : den (mdOf T n) (.glb 10) = pur (.dat (.int 9)) := h.eq10 n
class K11 (T : Tb) : Prop where
  eq11 : ∀ n, den (mdOf T n) (.glb 11) = pur (.dat (.int 3))
@[simp] theorem glb_11 {T : Tb} [h : K11 T] (n : Nat) : den (mdOf T n) (.glb 11) = pur (.dat (.int 3)) := h.eq11 n
class K12 (T : Tb) : Prop where
  eq12 : ∀ n, den (mdOf T n) (.glb 12) = pur (.dat (.int 800))
@[simp] theorem glb_12 {T : Tb} [h : K12 T] (n : Nat) : den (mdOf T n) (.glb 12) = pur (.dat (.int 800)) := h.eq12 n
class K13 (T : Tb) : Prop where
  eq13 : ∀ n, den (mdOf T n) (.glb 13) = pur (.dat (.int 2))
@[simp] theorem glb_13 {T : Tb} [h : K13 T] (n : Nat) : den (mdOf T n) (.glb 13) = pur (.dat (.int 2)) := h.eq13 n
class K14 (T : Tb) : Prop where
  eq14 : ∀ n, den (mdOf T n) (.glb 14) = pur (.dat (.int 2000))
@[simp] theorem glb_14 {T : Tb} [h : K14 T] (n : Nat) : den (mdOf T n) (.glb 14) = pur (.dat (.int 2000)) := h.eq14 n
class CNum (T : Tb) : Prop where
  f_is_number : ∀ n, (mdOf T (n+1)).fns "is_number" = runD (mdOf T n) d_is_number
  f_is_within : ∀ n, (mdOf T (n+1)).fns "is_within" = runD (mdOf T n) d_is_within
theorem fns_is_number {T : Tb} [h : CNum T] (n : Nat) : (mdOf T (n+1)).fns "is_number" = runD (mdOf T n) d_is_number := h.f_is_number n
theorem fns_is_within {T : Tb} [h : CNum T] (n : Nat) : (mdOf T (n+1)).fns "is_within" = runD (mdOf T n) d_is_within := h.f_is_within n
class CRow (T : Tb) : Prop extends CNum T, K0 T, K1 T where
  f_is_gap : ∀ n, (mdOf T (n+1)).fns "is_gap" = runD (mdOf T n) d_is_gap
  f_is_cell : ∀ n, (mdOf T (n+1)).fns "is_cell" = runD (mdOf T n) d_is_cell
  f_is_row : ∀ n, (mdOf T (n+1)).fns "is_row" = runD (mdOf T n) d_is_row
theorem fns_is_gap {T : Tb} [h : CRow T] (n : Nat) : (mdOf T (n+1)).fns "is_gap" = runD (mdOf T n) d_is_gap := h.f_is_gap n
theorem fns_is_cell {T : Tb} [h : CRow T] (n : Nat) : (mdOf T (n+1)).fns "is_cell" = runD (mdOf T n) d_is_cell := h.f_is_cell n
theorem fns_is_row {T : Tb} [h : CRow T] (n : Nat) : (mdOf T (n+1)).fns "is_row" = runD (mdOf T n) d_is_row := h.f_is_row n
class CCkRow (T : Tb) : Prop extends CRow T, K2 T where
  f_check_row : ∀ n, (mdOf T (n+1)).fns "check_row" = runD (mdOf T n) d_check_row
theorem fns_check_row {T : Tb} [h : CCkRow T] (n : Nat) : (mdOf T (n+1)).fns "check_row" = runD (mdOf T n) d_check_row := h.f_check_row n
class CCkTab (T : Tb) : Prop extends CRow T, K7 T, K8 T, K9 T where
  f_check_table : ∀ n, (mdOf T (n+1)).fns "check_table" = runD (mdOf T n) d_check_table
  f_check_tables : ∀ n, (mdOf T (n+1)).fns "check_tables" = runD (mdOf T n) d_check_tables
theorem fns_check_table {T : Tb} [h : CCkTab T] (n : Nat) : (mdOf T (n+1)).fns "check_table" = runD (mdOf T n) d_check_table := h.f_check_table n
theorem fns_check_tables {T : Tb} [h : CCkTab T] (n : Nat) : (mdOf T (n+1)).fns "check_tables" = runD (mdOf T n) d_check_tables := h.f_check_tables n
class CWid (T : Tb) : Prop where
  f_widths_of : ∀ n, (mdOf T (n+1)).fns "widths_of" = runD (mdOf T n) d_widths_of
theorem fns_widths_of {T : Tb} [h : CWid T] (n : Nat) : (mdOf T (n+1)).fns "widths_of" = runD (mdOf T n) d_widths_of := h.f_widths_of n
class CLookC (T : Tb) : Prop extends CNum T, K1 T, K3 T, K4 T, K5 T where
  f_Tally_init : ∀ n, (mdOf T (n+1)).ini "Tally" = runD (mdOf T n) d_Tally_init
  f_Tally_another : ∀ n, (mdOf T (n+1)).mts "Tally" "another" = runD (mdOf T n) d_Tally_another
  f_has_shape : ∀ n, (mdOf T (n+1)).fns "has_shape" = runD (mdOf T n) d_has_shape
  f_look_at_part : ∀ n, (mdOf T (n+1)).fns "look_at_part" = runD (mdOf T n) d_look_at_part
  f_look_at_condition : ∀ n, (mdOf T (n+1)).fns "look_at_condition" = runD (mdOf T n) d_look_at_condition
theorem fns_Tally_init {T : Tb} [h : CLookC T] (n : Nat) : (mdOf T (n+1)).ini "Tally" = runD (mdOf T n) d_Tally_init := h.f_Tally_init n
theorem fns_Tally_another {T : Tb} [h : CLookC T] (n : Nat) : (mdOf T (n+1)).mts "Tally" "another" = runD (mdOf T n) d_Tally_another := h.f_Tally_another n
theorem fns_has_shape {T : Tb} [h : CLookC T] (n : Nat) : (mdOf T (n+1)).fns "has_shape" = runD (mdOf T n) d_has_shape := h.f_has_shape n
theorem fns_look_at_part {T : Tb} [h : CLookC T] (n : Nat) : (mdOf T (n+1)).fns "look_at_part" = runD (mdOf T n) d_look_at_part := h.f_look_at_part n
theorem fns_look_at_condition {T : Tb} [h : CLookC T] (n : Nat) : (mdOf T (n+1)).fns "look_at_condition" = runD (mdOf T n) d_look_at_condition := h.f_look_at_condition n
class CCkCd (T : Tb) : Prop extends CLookC T where
  f_check_condition : ∀ n, (mdOf T (n+1)).fns "check_condition" = runD (mdOf T n) d_check_condition
theorem fns_check_condition {T : Tb} [h : CCkCd T] (n : Nat) : (mdOf T (n+1)).fns "check_condition" = runD (mdOf T n) d_check_condition := h.f_check_condition n
class CLookS (T : Tb) : Prop extends CLookC T, K2 T, K6 T where
  f_are_numbers : ∀ n, (mdOf T (n+1)).fns "are_numbers" = runD (mdOf T n) d_are_numbers
  f_is_pair : ∀ n, (mdOf T (n+1)).fns "is_pair" = runD (mdOf T n) d_is_pair
  f_are_pairs : ∀ n, (mdOf T (n+1)).fns "are_pairs" = runD (mdOf T n) d_are_pairs
  f_is_told_rightly : ∀ n, (mdOf T (n+1)).fns "is_told_rightly" = runD (mdOf T n) d_is_told_rightly
  f_table_width : ∀ n, (mdOf T (n+1)).fns "table_width" = runD (mdOf T n) d_table_width
  f_pick_width : ∀ n, (mdOf T (n+1)).fns "pick_width" = runD (mdOf T n) d_pick_width
  f_join_width : ∀ n, (mdOf T (n+1)).fns "join_width" = runD (mdOf T n) d_join_width
  f_look_at_sentence : ∀ n, (mdOf T (n+1)).fns "look_at_sentence" = runD (mdOf T n) d_look_at_sentence
  f_check_sentence : ∀ n, (mdOf T (n+1)).fns "check_sentence" = runD (mdOf T n) d_check_sentence
theorem fns_are_numbers {T : Tb} [h : CLookS T] (n : Nat) : (mdOf T (n+1)).fns "are_numbers" = runD (mdOf T n) d_are_numbers := h.f_are_numbers n
theorem fns_is_pair {T : Tb} [h : CLookS T] (n : Nat) : (mdOf T (n+1)).fns "is_pair" = runD (mdOf T n) d_is_pair := h.f_is_pair n
theorem fns_are_pairs {T : Tb} [h : CLookS T] (n : Nat) : (mdOf T (n+1)).fns "are_pairs" = runD (mdOf T n) d_are_pairs := h.f_are_pairs n
theorem fns_is_told_rightly {T : Tb} [h : CLookS T] (n : Nat) : (mdOf T (n+1)).fns "is_told_rightly" = runD (mdOf T n) d_is_told_rightly := h.f_is_told_rightly n
theorem fns_table_width {T : Tb} [h : CLookS T] (n : Nat) : (mdOf T (n+1)).fns "table_width" = runD (mdOf T n) d_table_width := h.f_table_width n
theorem fns_pick_width {T : Tb} [h : CLookS T] (n : Nat) : (mdOf T (n+1)).fns "pick_width" = runD (mdOf T n) d_pick_width := h.f_pick_width n
theorem fns_join_width {T : Tb} [h : CLookS T] (n : Nat) : (mdOf T (n+1)).fns "join_width" = runD (mdOf T n) d_join_width := h.f_join_width n
theorem fns_look_at_sentence {T : Tb} [h : CLookS T] (n : Nat) : (mdOf T (n+1)).fns "look_at_sentence" = runD (mdOf T n) d_look_at_sentence := h.f_look_at_sentence n
theorem fns_check_sentence {T : Tb} [h : CLookS T] (n : Nat) : (mdOf T (n+1)).fns "check_sentence" = runD (mdOf T n) d_check_sentence := h.f_check_sentence n
class COver (T : Tb) : Prop extends CCkTab T, CWid T, CLookS T where
  f_check_over_tables : ∀ n, (mdOf T (n+1)).fns "check_over_tables" = runD (mdOf T n) d_check_over_tables
theorem fns_check_over_tables {T : Tb} [h : COver T] (n : Nat) : (mdOf T (n+1)).fns "check_over_tables" = runD (mdOf T n) d_check_over_tables := h.f_check_over_tables n
class CTru (T : Tb) : Prop where
  f_opposite : ∀ n, (mdOf T (n+1)).fns "opposite" = runD (mdOf T n) d_opposite
  f_of_both : ∀ n, (mdOf T (n+1)).fns "of_both" = runD (mdOf T n) d_of_both
  f_of_either : ∀ n, (mdOf T (n+1)).fns "of_either" = runD (mdOf T n) d_of_either
  f_are_known : ∀ n, (mdOf T (n+1)).fns "are_known" = runD (mdOf T n) d_are_known
  f_are_one_gap : ∀ n, (mdOf T (n+1)).fns "are_one_gap" = runD (mdOf T n) d_are_one_gap
  f_same : ∀ n, (mdOf T (n+1)).fns "same" = runD (mdOf T n) d_same
  f_less : ∀ n, (mdOf T (n+1)).fns "less" = runD (mdOf T n) d_less
  f_comes_to : ∀ n, (mdOf T (n+1)).fns "comes_to" = runD (mdOf T n) d_comes_to
  f_truth_of_parts : ∀ n, (mdOf T (n+1)).fns "truth_of_parts" = runD (mdOf T n) d_truth_of_parts
  f_truth_of : ∀ n, (mdOf T (n+1)).fns "truth_of" = runD (mdOf T n) d_truth_of
theorem fns_opposite {T : Tb} [h : CTru T] (n : Nat) : (mdOf T (n+1)).fns "opposite" = runD (mdOf T n) d_opposite := h.f_opposite n
theorem fns_of_both {T : Tb} [h : CTru T] (n : Nat) : (mdOf T (n+1)).fns "of_both" = runD (mdOf T n) d_of_both := h.f_of_both n
theorem fns_of_either {T : Tb} [h : CTru T] (n : Nat) : (mdOf T (n+1)).fns "of_either" = runD (mdOf T n) d_of_either := h.f_of_either n
theorem fns_are_known {T : Tb} [h : CTru T] (n : Nat) : (mdOf T (n+1)).fns "are_known" = runD (mdOf T n) d_are_known := h.f_are_known n
theorem fns_are_one_gap {T : Tb} [h : CTru T] (n : Nat) : (mdOf T (n+1)).fns "are_one_gap" = runD (mdOf T n) d_are_one_gap := h.f_are_one_gap n
theorem fns_same {T : Tb} [h : CTru T] (n : Nat) : (mdOf T (n+1)).fns "same" = runD (mdOf T n) d_same := h.f_same n
theorem fns_less {T : Tb} [h : CTru T] (n : Nat) : (mdOf T (n+1)).fns "less" = runD (mdOf T n) d_less := h.f_less n
theorem fns_comes_to {T : Tb} [h : CTru T] (n : Nat) : (mdOf T (n+1)).fns "comes_to" = runD (mdOf T n) d_comes_to := h.f_comes_to n
theorem fns_truth_of_parts {T : Tb} [h : CTru T] (n : Nat) : (mdOf T (n+1)).fns "truth_of_parts" = runD (mdOf T n) d_truth_of_parts := h.f_truth_of_parts n
theorem fns_truth_of {T : Tb} [h : CTru T] (n : Nat) : (mdOf T (n+1)).fns "truth_of" = runD (mdOf T n) d_truth_of := h.f_truth_of n
class CRows (T : Tb) : Prop extends CTru T where
  f_same_cells : ∀ n, (mdOf T (n+1)).fns "same_cells" = runD (mdOf T n) d_same_cells
  f_not_false : ∀ n, (mdOf T (n+1)).fns "not_false" = runD (mdOf T n) d_not_false
  f_kept : ∀ n, (mdOf T (n+1)).fns "kept" = runD (mdOf T n) d_kept
  f_picked : ∀ n, (mdOf T (n+1)).fns "picked" = runD (mdOf T n) d_picked
  f_pairs_hold : ∀ n, (mdOf T (n+1)).fns "pairs_hold" = runD (mdOf T n) d_pairs_hold
  f_joined : ∀ n, (mdOf T (n+1)).fns "joined" = runD (mdOf T n) d_joined
  f_is_among : ∀ n, (mdOf T (n+1)).fns "is_among" = runD (mdOf T n) d_is_among
  f_left_without : ∀ n, (mdOf T (n+1)).fns "left_without" = runD (mdOf T n) d_left_without
  f_rows_told : ∀ n, (mdOf T (n+1)).fns "rows_told" = runD (mdOf T n) d_rows_told
theorem fns_same_cells {T : Tb} [h : CRows T] (n : Nat) : (mdOf T (n+1)).fns "same_cells" = runD (mdOf T n) d_same_cells := h.f_same_cells n
theorem fns_not_false {T : Tb} [h : CRows T] (n : Nat) : (mdOf T (n+1)).fns "not_false" = runD (mdOf T n) d_not_false := h.f_not_false n
theorem fns_kept {T : Tb} [h : CRows T] (n : Nat) : (mdOf T (n+1)).fns "kept" = runD (mdOf T n) d_kept := h.f_kept n
theorem fns_picked {T : Tb} [h : CRows T] (n : Nat) : (mdOf T (n+1)).fns "picked" = runD (mdOf T n) d_picked := h.f_picked n
theorem fns_pairs_hold {T : Tb} [h : CRows T] (n : Nat) : (mdOf T (n+1)).fns "pairs_hold" = runD (mdOf T n) d_pairs_hold := h.f_pairs_hold n
theorem fns_joined {T : Tb} [h : CRows T] (n : Nat) : (mdOf T (n+1)).fns "joined" = runD (mdOf T n) d_joined := h.f_joined n
theorem fns_is_among {T : Tb} [h : CRows T] (n : Nat) : (mdOf T (n+1)).fns "is_among" = runD (mdOf T n) d_is_among := h.f_is_among n
theorem fns_left_without {T : Tb} [h : CRows T] (n : Nat) : (mdOf T (n+1)).fns "left_without" = runD (mdOf T n) d_left_without := h.f_left_without n
theorem fns_rows_told {T : Tb} [h : CRows T] (n : Nat) : (mdOf T (n+1)).fns "rows_told" = runD (mdOf T n) d_rows_told := h.f_rows_told n
class CRun (T : Tb) : Prop extends COver T, CRows T where
  f_run : ∀ n, (mdOf T (n+1)).fns "run" = runD (mdOf T n) d_run
theorem fns_run {T : Tb} [h : CRun T] (n : Nat) : (mdOf T (n+1)).fns "run" = runD (mdOf T n) d_run := h.f_run n
class CThree (T : Tb) : Prop extends CCkRow T, CCkCd T, CTru T where
  f_three : ∀ n, (mdOf T (n+1)).fns "three" = runD (mdOf T n) d_three
theorem fns_three {T : Tb} [h : CThree T] (n : Nat) : (mdOf T (n+1)).fns "three" = runD (mdOf T n) d_three := h.f_three n
class CDice (T : Tb) : Prop where
  f__law_dice : ∀ n, (mdOf T (n+1)).fns "_law_dice" = runD (mdOf T n) d__law_dice
  f__law_next : ∀ n, (mdOf T (n+1)).fns "_law_next" = runD (mdOf T n) d__law_next
theorem fns__law_dice {T : Tb} [h : CDice T] (n : Nat) : (mdOf T (n+1)).fns "_law_dice" = runD (mdOf T n) d__law_dice := h.f__law_dice n
theorem fns__law_next {T : Tb} [h : CDice T] (n : Nat) : (mdOf T (n+1)).fns "_law_next" = runD (mdOf T n) d__law_next := h.f__law_next n
class CLike (T : Tb) : Prop where
  f__law_like : ∀ n, (mdOf T (n+1)).fns "_law_like" = runD (mdOf T n) d__law_like
theorem fns__law_like {T : Tb} [h : CLike T] (n : Nat) : (mdOf T (n+1)).fns "_law_like" = runD (mdOf T n) d__law_like := h.f__law_like n
class CCell (T : Tb) : Prop extends CDice T where
  f__law_cell : ∀ n, (mdOf T (n+1)).fns "_law_cell" = runD (mdOf T n) d__law_cell
theorem fns__law_cell {T : Tb} [h : CCell T] (n : Nat) : (mdOf T (n+1)).fns "_law_cell" = runD (mdOf T n) d__law_cell := h.f__law_cell n
class CTabs (T : Tb) : Prop extends CCell T where
  f__law_tables : ∀ n, (mdOf T (n+1)).fns "_law_tables" = runD (mdOf T n) d__law_tables
theorem fns__law_tables {T : Tb} [h : CTabs T] (n : Nat) : (mdOf T (n+1)).fns "_law_tables" = runD (mdOf T n) d__law_tables := h.f__law_tables n
class CCond (T : Tb) : Prop extends CDice T where
  f__law_part : ∀ n, (mdOf T (n+1)).fns "_law_part" = runD (mdOf T n) d__law_part
  f__law_condition : ∀ n, (mdOf T (n+1)).fns "_law_condition" = runD (mdOf T n) d__law_condition
theorem fns__law_part {T : Tb} [h : CCond T] (n : Nat) : (mdOf T (n+1)).fns "_law_part" = runD (mdOf T n) d__law_part := h.f__law_part n
theorem fns__law_condition {T : Tb} [h : CCond T] (n : Nat) : (mdOf T (n+1)).fns "_law_condition" = runD (mdOf T n) d__law_condition := h.f__law_condition n
class CThings (T : Tb) : Prop where
  f__law_things : ∀ n, (mdOf T (n+1)).fns "_law_things" = runD (mdOf T n) d__law_things
theorem fns__law_things {T : Tb} [h : CThings T] (n : Nat) : (mdOf T (n+1)).fns "_law_things" = runD (mdOf T n) d__law_things := h.f__law_things n
class CModest (T : Tb) : Prop extends CCond T, CThings T where
  f__law_modest : ∀ n, (mdOf T (n+1)).fns "_law_modest" = runD (mdOf T n) d__law_modest
theorem fns__law_modest {T : Tb} [h : CModest T] (n : Nat) : (mdOf T (n+1)).fns "_law_modest" = runD (mdOf T n) d__law_modest := h.f__law_modest n
class CAny (T : Tb) : Prop extends CCond T where
  f__law_sized : ∀ n, (mdOf T (n+1)).fns "_law_sized" = runD (mdOf T n) d__law_sized
  f__law_any : ∀ n, (mdOf T (n+1)).fns "_law_any" = runD (mdOf T n) d__law_any
theorem fns__law_sized {T : Tb} [h : CAny T] (n : Nat) : (mdOf T (n+1)).fns "_law_sized" = runD (mdOf T n) d__law_sized := h.f__law_sized n
theorem fns__law_any {T : Tb} [h : CAny T] (n : Nat) : (mdOf T (n+1)).fns "_law_any" = runD (mdOf T n) d__law_any := h.f__law_any n
class CMany (T : Tb) : Prop where
  f__law_many : ∀ n, (mdOf T (n+1)).fns "_law_many" = runD (mdOf T n) d__law_many
theorem fns__law_many {T : Tb} [h : CMany T] (n : Nat) : (mdOf T (n+1)).fns "_law_many" = runD (mdOf T n) d__law_many := h.f__law_many n
class CSent (T : Tb) : Prop extends CAny T, CThings T, CMany T where
  f__law_sentence : ∀ n, (mdOf T (n+1)).fns "_law_sentence" = runD (mdOf T n) d__law_sentence
theorem fns__law_sentence {T : Tb} [h : CSent T] (n : Nat) : (mdOf T (n+1)).fns "_law_sentence" = runD (mdOf T n) d__law_sentence := h.f__law_sentence n
class CLNum (T : Tb) : Prop where
  f__law_is_number : ∀ n, (mdOf T (n+1)).fns "_law_is_number" = runD (mdOf T n) d__law_is_number
theorem fns__law_is_number {T : Tb} [h : CLNum T] (n : Nat) : (mdOf T (n+1)).fns "_law_is_number" = runD (mdOf T n) d__law_is_number := h.f__law_is_number n
class CWorth (T : Tb) : Prop extends CLNum T where
  f__law_worth : ∀ n, (mdOf T (n+1)).fns "_law_worth" = runD (mdOf T n) d__law_worth
  f__law_held : ∀ n, (mdOf T (n+1)).fns "_law_held" = runD (mdOf T n) d__law_held
  f__law_truth : ∀ n, (mdOf T (n+1)).fns "_law_truth" = runD (mdOf T n) d__law_truth
theorem fns__law_worth {T : Tb} [h : CWorth T] (n : Nat) : (mdOf T (n+1)).fns "_law_worth" = runD (mdOf T n) d__law_worth := h.f__law_worth n
theorem fns__law_held {T : Tb} [h : CWorth T] (n : Nat) : (mdOf T (n+1)).fns "_law_held" = runD (mdOf T n) d__law_held := h.f__law_held n
theorem fns__law_truth {T : Tb} [h : CWorth T] (n : Nat) : (mdOf T (n+1)).fns "_law_truth" = runD (mdOf T n) d__law_truth := h.f__law_truth n
class CLRows (T : Tb) : Prop extends CWorth T where
  f__law_rows : ∀ n, (mdOf T (n+1)).fns "_law_rows" = runD (mdOf T n) d__law_rows
  f__law_two : ∀ n, (mdOf T (n+1)).fns "_law_two" = runD (mdOf T n) d__law_two
theorem fns__law_rows {T : Tb} [h : CLRows T] (n : Nat) : (mdOf T (n+1)).fns "_law_rows" = runD (mdOf T n) d__law_rows := h.f__law_rows n
theorem fns__law_two {T : Tb} [h : CLRows T] (n : Nat) : (mdOf T (n+1)).fns "_law_two" = runD (mdOf T n) d__law_two := h.f__law_two n
class CCkTop (T : Tb) : Prop extends CNum T where
  f_check_top : ∀ n, (mdOf T (n+1)).fns "check_top" = runD (mdOf T n) d_check_top
theorem fns_check_top {T : Tb} [h : CCkTop T] (n : Nat) : (mdOf T (n+1)).fns "check_top" = runD (mdOf T n) d_check_top := h.f_check_top n
class CEach (T : Tb) : Prop where
  f_one_of_each : ∀ n, (mdOf T (n+1)).fns "one_of_each" = runD (mdOf T n) d_one_of_each
theorem fns_one_of_each {T : Tb} [h : CEach T] (n : Nat) : (mdOf T (n+1)).fns "one_of_each" = runD (mdOf T n) d_one_of_each := h.f_one_of_each n
class CParted (T : Tb) : Prop extends CCkCd T, CTru T, CCkTop T, CEach T, K11 T where
  f_cells_to : ∀ n, (mdOf T (n+1)).fns "cells_to" = runD (mdOf T n) d_cells_to
  f_parted : ∀ n, (mdOf T (n+1)).fns "parted" = runD (mdOf T n) d_parted
theorem fns_cells_to {T : Tb} [h : CParted T] (n : Nat) : (mdOf T (n+1)).fns "cells_to" = runD (mdOf T n) d_cells_to := h.f_cells_to n
theorem fns_parted {T : Tb} [h : CParted T] (n : Nat) : (mdOf T (n+1)).fns "parted" = runD (mdOf T n) d_parted := h.f_parted n
end Gq
end

section
namespace Gq.Pk15
open PySem PySem.Spec L2
def inCls (s : Stmt) (j : Nat) : Stmt := match s with
  | .ClassDef _ _ _ b _ _ _ _ _ _ _ => b.getD j (.Pass ⟨0, 0, 0, 0⟩)
  | _ => s
theorem allc {t : Dt} {l : List Dt} (h : t.Bn) (r : ∀ t ∈ l, t.Bn) : ∀ u ∈ t :: l, u.Bn := fun u hu => (List.mem_cons.mp hu).elim (fun e => e ▸ h) (r u)
theorem alln : ∀ u ∈ ([] : List Dt), u.Bn := fun _ h => by cases h
def top (i : Nat) : Stmt := PySem.Challenge.pw_gaprows_k15_whole_alike_or_parted.main.body.getD i (.Pass ⟨0, 0, 0, 0⟩)
def t_is_number : Dt := ⟨("is_number", none), "is_number", top 9, ["value"], false, Gq.d_is_number⟩
theorem n_is_number : t_is_number.Bn := fun _ _ _ _ _ _ us hl => match us, hl with | [_], _ => rfl
def t_is_within : Dt := ⟨("is_within", none), "is_within", top 10, ["value", "least", "most"], false, Gq.d_is_within⟩
theorem n_is_within : t_is_within.Bn := fun _ _ _ _ _ _ us hl => match us, hl with | [_, _, _], _ => rfl
def t_is_gap : Dt := ⟨("is_gap", none), "is_gap", top 11, ["value", "word", "name"], false, Gq.d_is_gap⟩
theorem n_is_gap : t_is_gap.Bn := fun _ _ _ _ _ _ us hl => match us, hl with | [_], _ => rfl
def t_is_cell : Dt := ⟨("is_cell", none), "is_cell", top 12, ["value"], false, Gq.d_is_cell⟩
theorem n_is_cell : t_is_cell.Bn := fun _ _ _ _ _ _ us hl => match us, hl with | [_], _ => rfl
def t_is_row : Dt := ⟨("is_row", none), "is_row", top 13, ["value", "wide"], true, Gq.d_is_row⟩
theorem n_is_row : t_is_row.Bn := fun _ _ _ _ _ _ us hl => match us, hl with | [_, _], _ => rfl
def t_check_top : Dt := ⟨("check_top", none), "check_top", top 14, ["top", "highest"], false, Gq.d_check_top⟩
theorem n_check_top : t_check_top.Bn := fun _ _ _ _ _ _ us hl => match us, hl with | [_, _], _ => rfl
def t_check_row : Dt := ⟨("check_row", none), "check_row", top 15, ["row"], false, Gq.d_check_row⟩
theorem n_check_row : t_check_row.Bn := fun _ _ _ _ _ _ us hl => match us, hl with | [_], _ => rfl
def t_one_of_each : Dt := ⟨("one_of_each", none), "one_of_each", top 17, ["lists", "chosen", "things", "ahead", "thing"], false, Gq.d_one_of_each⟩
theorem n_one_of_each : t_one_of_each.Bn := fun _ _ _ _ _ _ us hl => match us, hl with | [_], _ => rfl
def t_has_shape : Dt := ⟨("has_shape", none), "has_shape", top 23, ["thing", "shapes"], false, Gq.d_has_shape⟩
theorem n_has_shape : t_has_shape.Bn := fun _ _ _ _ _ _ us hl => match us, hl with | [_, _], _ => rfl
def t_look_at_part : Dt := ⟨("look_at_part", none), "look_at_part", top 24, ["part", "wide", "tally", "at", "word"], false, Gq.d_look_at_part⟩
theorem n_look_at_part : t_look_at_part.Bn := fun _ _ _ _ _ _ us hl => match us, hl with | [_, _, _], _ => rfl
def t_look_at_condition : Dt := ⟨("look_at_condition", none), "look_at_condition", top 25, ["condition", "wide", "tally", "at", "over_parts", "thing"], false, Gq.d_look_at_condition⟩
theorem n_look_at_condition : t_look_at_condition.Bn := fun _ _ _ _ _ _ us hl => match us, hl with | [_, _, _], _ => rfl
def t_check_condition : Dt := ⟨("check_condition", none), "check_condition", top 26, ["condition", "wide"], false, Gq.d_check_condition⟩
theorem n_check_condition : t_check_condition.Bn := fun _ _ _ _ _ _ us hl => match us, hl with | [_, _], _ => rfl
def t_opposite : Dt := ⟨("opposite", none), "opposite", top 28, ["truth"], false, Gq.d_opposite⟩
theorem n_opposite : t_opposite.Bn := fun _ _ _ _ _ _ us hl => match us, hl with | [_], _ => rfl
def t_of_both : Dt := ⟨("of_both", none), "of_both", top 29, ["one", "other"], false, Gq.d_of_both⟩
theorem n_of_both : t_of_both.Bn := fun _ _ _ _ _ _ us hl => match us, hl with | [_, _], _ => rfl
def t_of_either : Dt := ⟨("of_either", none), "of_either", top 30, ["one", "other"], false, Gq.d_of_either⟩
theorem n_of_either : t_of_either.Bn := fun _ _ _ _ _ _ us hl => match us, hl with | [_, _], _ => rfl
def t_are_known : Dt := ⟨("are_known", none), "are_known", top 31, ["one", "other"], false, Gq.d_are_known⟩
theorem n_are_known : t_are_known.Bn := fun _ _ _ _ _ _ us hl => match us, hl with | [_, _], _ => rfl
def t_are_one_gap : Dt := ⟨("are_one_gap", none), "are_one_gap", top 32, ["one", "other"], false, Gq.d_are_one_gap⟩
theorem n_are_one_gap : t_are_one_gap.Bn := fun _ _ _ _ _ _ us hl => match us, hl with | [_, _], _ => rfl
def t_same : Dt := ⟨("same", none), "same", top 33, ["one", "other"], false, Gq.d_same⟩
theorem n_same : t_same.Bn := fun _ _ _ _ _ _ us hl => match us, hl with | [_, _], _ => rfl
def t_less : Dt := ⟨("less", none), "less", top 34, ["one", "other"], false, Gq.d_less⟩
theorem n_less : t_less.Bn := fun _ _ _ _ _ _ us hl => match us, hl with | [_, _], _ => rfl
def t_comes_to : Dt := ⟨("comes_to", none), "comes_to", top 35, ["part", "row", "word", "one", "other"], false, Gq.d_comes_to⟩
theorem n_comes_to : t_comes_to.Bn := fun _ _ _ _ _ _ us hl => match us, hl with | [_, _], _ => rfl
def t_truth_of_parts : Dt := ⟨("truth_of_parts", none), "truth_of_parts", top 36, ["condition", "row", "word", "one", "other"], false, Gq.d_truth_of_parts⟩
theorem n_truth_of_parts : t_truth_of_parts.Bn := fun _ _ _ _ _ _ us hl => match us, hl with | [_, _], _ => rfl
def t_truth_of : Dt := ⟨("truth_of", none), "truth_of", top 37, ["condition", "row", "word", "one", "other"], false, Gq.d_truth_of⟩
theorem n_truth_of : t_truth_of.Bn := fun _ _ _ _ _ _ us hl => match us, hl with | [_, _], _ => rfl
def t_three : Dt := ⟨("three", none), "three", top 39, ["condition", "row"], false, Gq.d_three⟩
theorem n_three : t_three.Bn := fun _ _ _ _ _ _ us hl => match us, hl with | [_, _], _ => rfl
def t_cells_to : Dt := ⟨("cells_to", none), "cells_to", top 42, ["top"], false, Gq.d_cells_to⟩
theorem n_cells_to : t_cells_to.Bn := fun _ _ _ _ _ _ us hl => match us, hl with | [_], _ => rfl
def t_parted : Dt := ⟨("parted", none), "parted", top 43, ["one", "other", "wide", "top", "row"], false, Gq.d_parted⟩
theorem n_parted : t_parted.Bn := fun _ _ _ _ _ _ us hl => match us, hl with | [_, _, _, _], _ => rfl
def t__law_dice : Dt := ⟨("_law_dice", none), "_law_dice", top 45, ["_law_script", "_law_mixed", "_law_cell_here"], false, Gq.d__law_dice⟩
theorem n__law_dice : t__law_dice.Bn := fun _ _ _ _ _ _ us hl => match us, hl with | [_], _ => rfl
def t__law_next : Dt := ⟨("_law_next", none), "_law_next", top 46, ["_law_dice_here", "_law_many", "_law_found", "_law_cell_here"], false, Gq.d__law_next⟩
theorem n__law_next : t__law_next.Bn := fun _ _ _ _ _ _ us hl => match us, hl with | [_, _], _ => rfl
def t__law_cell : Dt := ⟨("_law_cell", none), "_law_cell", top 47, ["_law_d", "_law_names", "_law_way"], false, Gq.d__law_cell⟩
theorem n__law_cell : t__law_cell.Bn := fun _ _ _ _ _ _ us hl => match us, hl with | [_, _], _ => rfl
def t__law_part : Dt := ⟨("_law_part", none), "_law_part", top 48, ["_law_d", "_law_wide", "_law_deep", "_law_way"], false, Gq.d__law_part⟩
theorem n__law_part : t__law_part.Bn := fun _ _ _ _ _ _ us hl => match us, hl with | [_, _, _], _ => rfl
def t__law_condition : Dt := ⟨("_law_condition", none), "_law_condition", top 49, ["_law_d", "_law_wide", "_law_deep", "_law_safe", "_law_way", "_law_far", "_law_word"], false, Gq.d__law_condition⟩
theorem n__law_condition : t__law_condition.Bn := fun _ _ _ _ _ _ us hl => match us, hl with | [_, _, _, _], _ => rfl
def t__law_things : Dt := ⟨("_law_things", none), "_law_things", top 50, ["_law_thing", "_law_found", "_law_part_here"], false, Gq.d__law_things⟩
theorem n__law_things : t__law_things.Bn := fun _ _ _ _ _ _ us hl => match us, hl with | [_], _ => rfl
def t__law_modest : Dt := ⟨("_law_modest", none), "_law_modest", top 51, ["_law_d", "_law_wide", "_law_deep", "_law_most", "_law_found"], false, Gq.d__law_modest⟩
theorem n__law_modest : t__law_modest.Bn := fun _ _ _ _ _ _ us hl => match us, hl with | [_, _, _, _], _ => rfl
def d__law_same : Df := ⟨4, 5, (.cons (.asg 4 (.lst (.cons (.tup (.cons (.tup (.cons (.kon (.str "and")) (.cons (.var 1) (.cons (.var 2) .nil)))) (.cons (.tup (.cons (.kon (.str "and")) (.cons (.var 2) (.cons (.var 1) .nil)))) .nil))) .nil))) (.cons (.exp (.mut .append 4 (.cons (.tup (.cons (.tup (.cons (.kon (.str "or")) (.cons (.var 1) (.cons (.tup (.cons (.kon (.str "or")) (.cons (.var 2) (.cons (.var 3) .nil)))) .nil)))) (.cons (.tup (.cons (.kon (.str "or")) (.cons (.tup (.cons (.kon (.str "or")) (.cons (.var 1) (.cons (.var 2) .nil)))) (.cons (.var 3) .nil)))) .nil))) .nil))) (.cons (.exp (.mut .append 4 (.cons (.tup (.cons (.tup (.cons (.kon (.str "not")) (.cons (.tup (.cons (.kon (.str "and")) (.cons (.var 1) (.cons (.var 2) .nil)))) .nil))) (.cons (.tup (.cons (.kon (.str "or")) (.cons (.tup (.cons (.kon (.str "not")) (.cons (.var 1) .nil))) (.cons (.tup (.cons (.kon (.str "not")) (.cons (.var 2) .nil))) .nil)))) .nil))) .nil))) (.cons (.exp (.mut .append 4 (.cons (.tup (.cons (.tup (.cons (.kon (.str "and")) (.cons (.var 1) (.cons (.tup (.cons (.kon (.str "or")) (.cons (.var 2) (.cons (.var 3) .nil)))) .nil)))) (.cons (.tup (.cons (.kon (.str "or")) (.cons (.tup (.cons (.kon (.str "and")) (.cons (.var 1) (.cons (.var 2) .nil)))) (.cons (.tup (.cons (.kon (.str "and")) (.cons (.var 1) (.cons (.var 3) .nil)))) .nil)))) .nil))) .nil))) (.cons (.exp (.mut .append 4 (.cons (.tup (.cons (.tup (.cons (.kon (.str "true")) (.cons (.tup (.cons (.kon (.str "and")) (.cons (.var 1) (.cons (.var 2) .nil)))) .nil))) (.cons (.tup (.cons (.kon (.str "and")) (.cons (.tup (.cons (.kon (.str "true")) (.cons (.var 1) .nil))) (.cons (.tup (.cons (.kon (.str "true")) (.cons (.var 2) .nil))) .nil)))) .nil))) .nil))) (.cons (.exp (.mut .append 4 (.cons (.tup (.cons (.tup (.cons (.kon (.str "not")) (.cons (.tup (.cons (.kon (.str "not")) (.cons (.var 1) .nil))) .nil))) (.cons (.tup (.cons (.kon (.str "or")) (.cons (.var 1) (.cons (.tup (.cons (.kon (.str "and")) (.cons (.var 1) (.cons (.var 2) .nil)))) .nil)))) .nil))) .nil))) (.cons (.exp (.mut .append 4 (.cons (.tup (.cons (.tup (.cons (.kon (.str "true")) (.cons (.tup (.cons (.kon (.str "true")) (.cons (.var 1) .nil))) .nil))) (.cons (.tup (.cons (.kon (.str "true")) (.cons (.var 1) .nil))) .nil))) .nil))) (.cons (.ret (.sub (.var 4) (.cal "_law_next" (.cons (.var 0) (.cons (.kon (.int 7)) .nil))))) .nil))))))))⟩
def t__law_same : Dt := ⟨("_law_same", none), "_law_same", top 52, ["_law_d", "_law_one", "_law_other", "_law_third", "_law_some"], false, d__law_same⟩
theorem n__law_same : t__law_same.Bn := fun _ _ _ _ _ _ us hl => match us, hl with | [_, _, _, _], _ => rfl
def d_law : Df := ⟨1, 15, (.cons (.asg 1 (.han (.cal "_law_dice" (.cons (.var 0) .nil)))) (.cons (.lop (.nm 2) (.rn1 (.kon (.int 4))) (.cons (.unp [6, 7] (.tup (.cons (.bin .add (.kon (.int 1)) (.cal "_law_next" (.cons (.var 1) (.cons (.kon (.int 4)) .nil)))) (.cons (.cal "_law_next" (.cons (.var 1) (.cons (.kon (.int 3)) .nil))) .nil)))) (.cons (.asg 3 (.com (.nm 12) (.rn1 (.kon (.int 3))) .nil (.cal "_law_modest" (.cons (.var 1) (.cons (.var 6) (.cons (.kon (.int 1)) (.cons (.kon (.int 12)) .nil))))) [("_law_k", 12)])) (.cons (.unp [8, 9] (.cal "_law_same" (.cons (.var 1) (.cons (.sub (.var 3) (.kon (.int 0))) (.cons (.sub (.var 3) (.kon (.int 1))) (.cons (.sub (.var 3) (.kon (.int 2))) .nil)))))) (.cons (.iff (.cmp .isnot (.cal "parted" (.cons (.var 8) (.cons (.var 9) (.cons (.var 6) (.cons (.var 7) .nil))))) (.kon .none)) (.cons (.ret (.kon (.bool false))) .nil) .nil) (.cons (.asg 4 (.cal "parted" (.cons (.sub (.var 3) (.kon (.int 0))) (.cons (.sub (.var 3) (.kon (.int 1))) (.cons (.var 6) (.cons (.var 7) .nil)))))) (.cons (.iff (.bls true (.cons (.cmp .isnot (.var 4) (.kon .none)) (.cons (.cmp .eq (.cal "three" (.cons (.sub (.var 3) (.kon (.int 0))) (.cons (.var 4) .nil))) (.cal "three" (.cons (.sub (.var 3) (.kon (.int 1))) (.cons (.var 4) .nil)))) .nil))) (.cons (.ret (.kon (.bool false))) .nil) .nil) (.cons (.lop (.nm 5) (.rn1 (.kon (.int 5))) (.cons (.asg 10 (.com (.nm 12) (.rn1 (.kon (.int 2))) .nil (.cal "_law_next" (.cons (.var 1) (.cons (.kon (.int 10)) .nil))) [("_law_k", 12)])) (.cons (.asg 11 (.bl1 .tuple (.com (.nm 12) (.rn1 (.var 6)) .nil (.cal "_law_cell" (.cons (.var 1) (.cons (.var 10) .nil))) [("_law_k", 12)]))) (.cons (.iff (.cmp .ne (.cal "three" (.cons (.var 8) (.cons (.var 11) .nil))) (.cal "three" (.cons (.var 9) (.cons (.var 11) .nil)))) (.cons (.ret (.kon (.bool false))) .nil) .nil) (.cons (.iff (.cmp .is (.var 4) (.kon .none)) (.cons (.asg 13 (.bin .add (.lst (.cons (.tup (.cons (.kon (.str "gap")) (.cons (.kon (.int 0)) .nil))) (.cons (.tup (.cons (.kon (.str "gap")) (.cons (.kon (.int 1)) .nil))) .nil))) (.lrg (.bin .add (.var 7) (.kon (.int 1)))))) (.cons (.asg 14 (.bl1 .tuple (.com (.nm 12) (.rn1 (.var 6)) .nil (.sub (.var 13) (.cal "_law_next" (.cons (.var 1) (.cons (.bl1 .len (.var 13)) .nil)))) [("_law_k", 12)]))) (.cons (.iff (.cmp .ne (.cal "three" (.cons (.sub (.var 3) (.kon (.int 0))) (.cons (.var 14) .nil))) (.cal "three" (.cons (.sub (.var 3) (.kon (.int 1))) (.cons (.var 14) .nil)))) (.cons (.ret (.kon (.bool false))) .nil) .nil) .nil))) .nil) .nil))))) .nil)))))))) (.cons (.ret (.kon (.bool true))) .nil)))⟩
def t_law : Dt := ⟨("law", none), "law", top 53, ["_law_script", "_law_d", "_law_turn", "_law_some", "_law_row", "_law_again", "_law_wide", "_law_top", "_law_one", "_law_other", "_law_names", "_law_drawn", "_law_k", "_law_cells", "_law_near"], false, d_law⟩
theorem n_law : t_law.Bn := fun _ _ _ _ _ _ us hl => match us, hl with | [_], _ => rfl
def t_Tally_init : Dt := ⟨("Tally", some "__init__"), "Tally.__init__", inCls (top 22) 0, ["self"], false, Gq.d_Tally_init⟩
theorem n_Tally_init : t_Tally_init.Bn := fun _ _ _ _ _ _ us hl => match us, hl with | [_], _ => rfl
def t_Tally_another : Dt := ⟨("Tally", some "another"), "Tally.another", inCls (top 22) 1, ["self", "at"], false, Gq.d_Tally_another⟩
theorem n_Tally_another : t_Tally_another.Bn := fun _ _ _ _ _ _ us hl => match us, hl with | [_], _ => rfl
def pg : Pg := { con := [("HIGHEST_NAME", (.int 9)), ("HIGHEST_NUMBER", (.int 99)), ("MOST_CELLS", (.int 8)), ("PARTS", (.tuple [(.tuple [(.str "col"), (.int 1)]), (.tuple [(.str "num"), (.int 1)]), (.tuple [(.str "plus"), (.int 2)]), (.tuple [(.str "take"), (.int 2)])])), ("CONDITIONS", (.tuple [(.tuple [(.str "is"), (.int 2)]), (.tuple [(.str "less"), (.int 2)]), (.tuple [(.str "lacks"), (.int 1)]), (.tuple [(.str "not"), (.int 1)]), (.tuple [(.str "true"), (.int 1)]), (.tuple [(.str "and"), (.int 2)]), (.tuple [(.str "or"), (.int 2)])])), ("MOST_THINGS", (.int 60)), ("HIGHEST_NAME", (.int 9)), ("HIGHEST_NAME", (.int 9)), ("HIGHEST_NAME", (.int 9)), ("HIGHEST_NAME", (.int 9)), ("HIGHEST_NAME", (.int 9)), ("HIGHEST_TOP", (.int 3))], cls := ["Tally"], fl := [("Tally", "met")], fns := [t_is_number, t_is_within, t_is_gap, t_is_cell, t_is_row, t_check_top, t_check_row, t_one_of_each, t_has_shape, t_look_at_part, t_look_at_condition, t_check_condition, t_opposite, t_of_both, t_of_either, t_are_known, t_are_one_gap, t_same, t_less, t_comes_to, t_truth_of_parts, t_truth_of, t_three, t_cells_to, t_parted, t__law_dice, t__law_next, t__law_cell, t__law_part, t__law_condition, t__law_things, t__law_modest, t__law_same, t_law], mts := [t_Tally_another], ini := [t_Tally_init], wn := 100000 }
theorem bns : ∀ t ∈ pg.all, t.Bn := by
  have e : pg.all = [t_is_number, t_is_within, t_is_gap, t_is_cell, t_is_row, t_check_top, t_check_row, t_one_of_each, t_has_shape, t_look_at_part, t_look_at_condition, t_check_condition, t_opposite, t_of_both, t_of_either, t_are_known, t_are_one_gap, t_same, t_less, t_comes_to, t_truth_of_parts, t_truth_of, t_three, t_cells_to, t_parted, t__law_dice, t__law_next, t__law_cell, t__law_part, t__law_condition, t__law_things, t__law_modest, t__law_same, t_law, t_Tally_another, t_Tally_init] := rfl
  rw [e]
  exact allc n_is_number (allc n_is_within (allc n_is_gap (allc n_is_cell (allc n_is_row (allc n_check_top (allc n_check_row (allc n_one_of_each (allc n_has_shape (allc n_look_at_part (allc n_look_at_condition (allc n_check_condition (allc n_opposite (allc n_of_both (allc n_of_either (allc n_are_known (allc n_are_one_gap (allc n_same (allc n_less (allc n_comes_to (allc n_truth_of_parts (allc n_truth_of (allc n_three (allc n_cells_to (allc n_parted (allc n__law_dice (allc n__law_next (allc n__law_cell (allc n__law_part (allc n__law_condition (allc n__law_things (allc n__law_modest (allc n__law_same (allc n_law (allc n_Tally_another (allc n_Tally_init alln)))))))))))))))))))))))))))))))))))
instance : WN pg.tb := WN.of rfl
instance kn0 : K0 pg.tb := ⟨kn_of (x := "HIGHEST_NAME") rfl⟩
instance kn1 : K1 pg.tb := ⟨kn_of (x := "HIGHEST_NUMBER") rfl⟩
instance kn2 : K2 pg.tb := ⟨kn_of (x := "MOST_CELLS") rfl⟩
instance kn3 : K3 pg.tb := ⟨kn_of (x := "PARTS") rfl⟩
instance kn4 : K4 pg.tb := ⟨kn_of (x := "CONDITIONS") rfl⟩
instance kn5 : K5 pg.tb := ⟨kn_of (x := "MOST_THINGS") rfl⟩
instance kn11 : K11 pg.tb := ⟨kn_of (x := "HIGHEST_TOP") rfl⟩
instance cNum : CNum pg.tb := { f_is_number := fun n => by kernel_rfl, f_is_within := fun n => by kernel_rfl }
instance cRow : CRow pg.tb := { f_is_gap := fun n => by kernel_rfl, f_is_cell := fun n => by kernel_rfl, f_is_row := fun n => by kernel_rfl }
instance cCkRow : CCkRow pg.tb := { f_check_row := fun n => by kernel_rfl }
instance cLookC : CLookC pg.tb := { f_Tally_init := fun n => by kernel_rfl, f_Tally_another := fun n => by kernel_rfl, f_has_shape := fun n => by kernel_rfl, f_look_at_part := fun n => by kernel_rfl, f_look_at_condition := fun n => by kernel_rfl }
instance cCkCd : CCkCd pg.tb := { f_check_condition := fun n => by kernel_rfl }
instance cTru : CTru pg.tb := { f_opposite := fun n => by kernel_rfl, f_of_both := fun n => by kernel_rfl, f_of_either := fun n => by kernel_rfl, f_are_known := fun n => by kernel_rfl, f_are_one_gap := fun n => by kernel_rfl, f_same := fun n => by kernel_rfl, f_less := fun n => by kernel_rfl, f_comes_to := fun n => by kernel_rfl, f_truth_of_parts := fun n => by kernel_rfl, f_truth_of := fun n => by kernel_rfl }
instance cThree : CThree pg.tb := { f_three := fun n => by kernel_rfl }
instance cDice : CDice pg.tb := { f__law_dice := fun n => by kernel_rfl, f__law_next := fun n => by kernel_rfl }
instance cCell : CCell pg.tb := { f__law_cell := fun n => by kernel_rfl }
instance cCond : CCond pg.tb := { f__law_part := fun n => by kernel_rfl, f__law_condition := fun n => by kernel_rfl }
instance cThings : CThings pg.tb := { f__law_things := fun n => by kernel_rfl }
instance cModest : CModest pg.tb := { f__law_modest := fun n => by kernel_rfl }
instance cCkTop : CCkTop pg.tb := { f_check_top := fun n => by kernel_rfl }
instance cEach : CEach pg.tb := { f_one_of_each := fun n => by kernel_rfl }
instance cParted : CParted pg.tb := { f_cells_to := fun n => by kernel_rfl, f_parted := fun n => by kernel_rfl }
theorem fns__law_same (n : Nat) : (mdOf pg.tb (n+1)).fns "_law_same" = runD (mdOf pg.tb n) d__law_same := by kernel_rfl
theorem fns_law (n : Nat) : (mdOf pg.tb (n+1)).fns "law" = runD (mdOf pg.tb n) d_law := by kernel_rfl
theorem okS : pg.okS = true := by decide +kernel
end Gq.Pk15
end

section
namespace Gq.Pk15
open PySem PySem.Spec PyProof.Rows L2
abbrev R : PySem.W.OpenRow := PySem.W.OpenLaw.row PySem.Challenge.rw_gaprows_k15_whole_alike_or_parted
abbrev hk : PySem.W.Hook := He.hookX 6 pg.fa pg.fn [] pg.tf pg.ex
def ob (s : PySem.W.SharedT) : He.AlX := He.obsX 6 pg.fa pg.fn [] pg.tf pg.ex (HandSHeadRun.getT s)
theorem ob_eq (s : PySem.W.SharedT) : ob s = hk.obs s.abs := He.obsX_eq (HandSHeadRun.getT_eq s)
def nm0 : List PySem.Str := ["__name__", "GapError", "BadTables", "BadSentence", "BadTop", "HIGHEST_NUMBER", "HIGHEST_NAME", "MOST_CELLS", "is_number", "is_within", "is_gap", "is_cell", "is_row", "check_top", "check_row", "one_of_each", "MOST_THINGS", "CONDITIONS", "PARTS", "Tally", "has_shape", "look_at_part", "look_at_condition", "check_condition", "opposite", "of_both", "of_either", "are_known", "are_one_gap", "same"]
def nm1 : List PySem.Str := ["less", "comes_to", "truth_of_parts", "truth_of", "three", "HIGHEST_TOP", "cells_to", "parted", "_law_dice", "_law_next", "_law_cell", "_law_part", "_law_condition", "_law_things", "_law_modest", "_law_same"]
def names : List PySem.Str := nm0 ++ nm1
theorem run (w : World) : HandSHeadRun.RunEq R (PySem.W.view R.prog [53]) hk ob 4000 names w := by
  intro os
  kernel_rfl
end Gq.Pk15
end

section
namespace Gq
open PySem PySem.Spec L2

@[simp] theorem wa0 : ((Str.ofString "gap" == Str.ofString "col") = false) ∧ ((Str.ofString "gap" == Str.ofString "num") = false) ∧ ((Str.ofString "gap" == Str.ofString "plus") = false) ∧ ((Str.ofString "gap" == Str.ofString "take") = false) ∧ ((Str.ofString "gap" == Str.ofString "is") = false) ∧ ((Str.ofString "gap" == Str.ofString "less") = false) ∧ ((Str.ofString "gap" == Str.ofString "lacks") = false) ∧ ((Str.ofString "gap" == Str.ofString "not") = false) ∧ ((Str.ofString "gap" == Str.ofString "true") = false) ∧ ((Str.ofString "gap" == Str.ofString "and") = false) ∧ ((Str.ofString "gap" == Str.ofString "or") = false) ∧ ((Str.ofString "gap" == Str.ofString "rows") = false) ∧ ((Str.ofString "gap" == Str.ofString "keep") = false) ∧ ((Str.ofString "gap" == Str.ofString "pick") = false) ∧ ((Str.ofString "gap" == Str.ofString "join") = false) ∧ ((Str.ofString "gap" == Str.ofString "both") = false) ∧ ((Str.ofString "gap" == Str.ofString "without") = false) ∧ ((Str.ofString "gap" == Str.ofString "sure") = false) ∧ ((Str.ofString "gap" == Str.ofString "maybe") = false) ∧ ((Str.ofString "gap" == Str.ofString "cell") = false) ∧ ((Str.ofString "gap" == Str.ofString "eq") = false) ∧ ((Str.ofString "gap" == Str.ofString "lt") = false) ∧ ((Str.ofString "gap" == Str.ofString "no") = false) ∧ ((Str.ofString "gap" == Str.ofString "all") = false) ∧ ((Str.ofString "gap" == Str.ofString "any") = false) ∧ ((Str.ofString "gap" == Str.ofString "pair") = false) ∧ ((Str.ofString "gap" == Str.ofString "missing") = false) ∧ ((Str.ofString "gap" == Str.ofString "tables") = false) ∧ ((Str.ofString "gap" == Str.ofString "sentence") = false) ∧ ((Str.ofString "gap" == Str.ofString "column") = false) ∧ ((Str.ofString "gap" == Str.ofString "top") = false) ∧ ((Str.ofString "gap" == Str.ofString "many") = false) ∧ ((Str.ofString "gap" == Str.ofString "text") = false) ∧ ((Str.ofString "gap" == Str.ofString "other") = false) ∧ ((Str.ofString "gap" == Str.ofString "met") = false) ∧ ((Str.ofString "gap" == Str.ofString "another") = false) := by decide +kernel
@[simp] theorem wb0 : (Str.ofString "gap" ≠ Str.ofString "col") ∧ (Str.ofString "gap" ≠ Str.ofString "num") ∧ (Str.ofString "gap" ≠ Str.ofString "plus") ∧ (Str.ofString "gap" ≠ Str.ofString "take") ∧ (Str.ofString "gap" ≠ Str.ofString "is") ∧ (Str.ofString "gap" ≠ Str.ofString "less") ∧ (Str.ofString "gap" ≠ Str.ofString "lacks") ∧ (Str.ofString "gap" ≠ Str.ofString "not") ∧ (Str.ofString "gap" ≠ Str.ofString "true") ∧ (Str.ofString "gap" ≠ Str.ofString "and") ∧ (Str.ofString "gap" ≠ Str.ofString "or") ∧ (Str.ofString "gap" ≠ Str.ofString "rows") ∧ (Str.ofString "gap" ≠ Str.ofString "keep") ∧ (Str.ofString "gap" ≠ Str.ofString "pick") ∧ (Str.ofString "gap" ≠ Str.ofString "join") ∧ (Str.ofString "gap" ≠ Str.ofString "both") ∧ (Str.ofString "gap" ≠ Str.ofString "without") ∧ (Str.ofString "gap" ≠ Str.ofString "sure") ∧ (Str.ofString "gap" ≠ Str.ofString "maybe") ∧ (Str.ofString "gap" ≠ Str.ofString "cell") ∧ (Str.ofString "gap" ≠ Str.ofString "eq") ∧ (Str.ofString "gap" ≠ Str.ofString "lt") ∧ (Str.ofString "gap" ≠ Str.ofString "no") ∧ (Str.ofString "gap" ≠ Str.ofString "all") ∧ (Str.ofString "gap" ≠ Str.ofString "any") ∧ (Str.ofString "gap" ≠ Str.ofString "pair") ∧ (Str.ofString "gap" ≠ Str.ofString "missing") ∧ (Str.ofString "gap" ≠ Str.ofString "tables") ∧ (Str.ofString "gap" ≠ Str.ofString "sentence") ∧ (Str.ofString "gap" ≠ Str.ofString "column") ∧ (Str.ofString "gap" ≠ Str.ofString "top") ∧ (Str.ofString "gap" ≠ Str.ofString "many") ∧ (Str.ofString "gap" ≠ Str.ofString "text") ∧ (Str.ofString "gap" ≠ Str.ofString "other") ∧ (Str.ofString "gap" ≠ Str.ofString "met") ∧ (Str.ofString "gap" ≠ Str.ofString "another") := by decide +kernel
@[simp] theorem wa1 : ((Str.ofString "col" == Str.ofString "gap") = false) ∧ ((Str.ofString "col" == Str.ofString "num") = false) ∧ ((Str.ofString "col" == Str.ofString "plus") = false) ∧ ((Str.ofString "col" == Str.ofString "take") = false) ∧ ((Str.ofString "col" == Str.ofString "is") = false) ∧ ((Str.ofString "col" == Str.ofString "less") = false) ∧ ((Str.ofString "col" == Str.ofString "lacks") = false) ∧ ((Str.ofString "col" == Str.ofString "not") = false) ∧ ((Str.ofString "col" == Str.ofString "true") = false) ∧ ((Str.ofString "col" == Str.ofString "and") = false) ∧ ((Str.ofString "col" == Str.ofString "or") = false) ∧ ((Str.ofString "col" == Str.ofString "rows") = false) ∧ ((Str.ofString "col" == Str.ofString "keep") = false) ∧ ((Str.ofString "col" == Str.ofString "pick") = false) ∧ ((Str.ofString "col" == Str.ofString "join") = false) ∧ ((Str.ofString "col" == Str.ofString "both") = false) ∧ ((Str.ofString "col" == Str.ofString "without") = false) ∧ ((Str.ofString "col" == Str.ofString "sure") = false) ∧ ((Str.ofString "col" == Str.ofString "maybe") = false) ∧ ((Str.ofString "col" == Str.ofString "cell") = false) ∧ ((Str.ofString "col" == Str.ofString "eq") = false) ∧ ((Str.ofString "col" == Str.ofString "lt") = false) ∧ ((Str.ofString "col" == Str.ofString "no") = false) ∧ ((Str.ofString "col" == Str.ofString "all") = false) ∧ ((Str.ofString "col" == Str.ofString "any") = false) ∧ ((Str.ofString "col" == Str.ofString "pair") = false) ∧ ((Str.ofString "col" == Str.ofString "missing") = false) ∧ ((Str.ofString "col" == Str.ofString "tables") = false) ∧ ((Str.ofString "col" == Str.ofString "sentence") = false) ∧ ((Str.ofString "col" == Str.ofString "column") = false) ∧ ((Str.ofString "col" == Str.ofString "top") = false) ∧ ((Str.ofString "col" == Str.ofString "many") = false) ∧ ((Str.ofString "col" == Str.ofString "text") = false) ∧ ((Str.ofString "col" == Str.ofString "other") = false) ∧ ((Str.ofString "col" == Str.ofString "met") = false) ∧ ((Str.ofString "col" == Str.ofString "another") = false) := by decide +kernel
@[simp] theorem wb1 : (Str.ofString "col" ≠ Str.ofString "gap") ∧ (Str.ofString "col" ≠ Str.ofString "num") ∧ (Str.ofString "col" ≠ Str.ofString "plus") ∧ (Str.ofString "col" ≠ Str.ofString "take") ∧ (Str.ofString "col" ≠ Str.ofString "is") ∧ (Str.ofString "col" ≠ Str.ofString "less") ∧ (Str.ofString "col" ≠ Str.ofString "lacks") ∧ (Str.ofString "col" ≠ Str.ofString "not") ∧ (Str.ofString "col" ≠ Str.ofString "true") ∧ (Str.ofString "col" ≠ Str.ofString "and") ∧ (Str.ofString "col" ≠ Str.ofString "or") ∧ (Str.ofString "col" ≠ Str.ofString "rows") ∧ (Str.ofString "col" ≠ Str.ofString "keep") ∧ (Str.ofString "col" ≠ Str.ofString "pick") ∧ (Str.ofString "col" ≠ Str.ofString "join") ∧ (Str.ofString "col" ≠ Str.ofString "both") ∧ (Str.ofString "col" ≠ Str.ofString "without") ∧ (Str.ofString "col" ≠ Str.ofString "sure") ∧ (Str.ofString "col" ≠ Str.ofString "maybe") ∧ (Str.ofString "col" ≠ Str.ofString "cell") ∧ (Str.ofString "col" ≠ Str.ofString "eq") ∧ (Str.ofString "col" ≠ Str.ofString "lt") ∧ (Str.ofString "col" ≠ Str.ofString "no") ∧ (Str.ofString "col" ≠ Str.ofString "all") ∧ (Str.ofString "col" ≠ Str.ofString "any") ∧ (Str.ofString "col" ≠ Str.ofString "pair") ∧ (Str.ofString "col" ≠ Str.ofString "missing") ∧ (Str.ofString "col" ≠ Str.ofString "tables") ∧ (Str.ofString "col" ≠ Str.ofString "sentence") ∧ (Str.ofString "col" ≠ Str.ofString "column") ∧ (Str.ofString "col" ≠ Str.ofString "top") ∧ (Str.ofString "col" ≠ Str.ofString "many") ∧ (Str.ofString "col" ≠ Str.ofString "text") ∧ (Str.ofString "col" ≠ Str.ofString "other") ∧ (Str.ofString "col" ≠ Str.ofString "met") ∧ (Str.ofString "col" ≠ Str.ofString "another") := by decide +kernel
@[simp] theorem wa2 : ((Str.ofString "num" == Str.ofString "gap") = false) ∧ ((Str.ofString "num" == Str.ofString "col") = false) ∧ ((Str.ofString "num" == Str.ofString "plus") = false) ∧ ((Str.ofString "num" == Str.ofString "take") = false) ∧ ((Str.ofString "num" == Str.ofString "is") = false) ∧ ((Str.ofString "num" == Str.ofString "less") = false) ∧ ((Str.ofString "num" == Str.ofString "lacks") = false) ∧ ((Str.ofString "num" == Str.ofString "not") = false) ∧ ((Str.ofString "num" == Str.ofString "true") = false) ∧ ((Str.ofString "num" == Str.ofString "and") = false) ∧ ((Str.ofString "num" == Str.ofString "or") = false) ∧ ((Str.ofString "num" == Str.ofString "rows") = false) ∧ ((Str.ofString "num" == Str.ofString "keep") = false) ∧ ((Str.ofString "num" == Str.ofString "pick") = false) ∧ ((Str.ofString "num" == Str.ofString "join") = false) ∧ ((Str.ofString "num" == Str.ofString "both") = false) ∧ ((Str.ofString "num" == Str.ofString "without") = false) ∧ ((Str.ofString "num" == Str.ofString "sure") = false) ∧ ((Str.ofString "num" == Str.ofString "maybe") = false) ∧ ((Str.ofString "num" == Str.ofString "cell") = false) ∧ ((Str.ofString "num" == Str.ofString "eq") = false) ∧ ((Str.ofString "num" == Str.ofString "lt") = false) ∧ ((Str.ofString "num" == Str.ofString "no") = false) ∧ ((Str.ofString "num" == Str.ofString "all") = false) ∧ ((Str.ofString "num" == Str.ofString "any") = false) ∧ ((Str.ofString "num" == Str.ofString "pair") = false) ∧ ((Str.ofString "num" == Str.ofString "missing") = false) ∧ ((Str.ofString "num" == Str.ofString "tables") = false) ∧ ((Str.ofString "num" == Str.ofString "sentence") = false) ∧ ((Str.ofString "num" == Str.ofString "column") = false) ∧ ((Str.ofString "num" == Str.ofString "top") = false) ∧ ((Str.ofString "num" == Str.ofString "many") = false) ∧ ((Str.ofString "num" == Str.ofString "text") = false) ∧ ((Str.ofString "num" == Str.ofString "other") = false) ∧ ((Str.ofString "num" == Str.ofString "met") = false) ∧ ((Str.ofString "num" == Str.ofString "another") = false) := by decide +kernel
@[simp] theorem wb2 : (Str.ofString "num" ≠ Str.ofString "gap") ∧ (Str.ofString "num" ≠ Str.ofString "col") ∧ (Str.ofString "num" ≠ Str.ofString "plus") ∧ (Str.ofString "num" ≠ Str.ofString "take") ∧ (Str.ofString "num" ≠ Str.ofString "is") ∧ (Str.ofString "num" ≠ Str.ofString "less") ∧ (Str.ofString "num" ≠ Str.ofString "lacks") ∧ (Str.ofString "num" ≠ Str.ofString "not") ∧ (Str.ofString "num" ≠ Str.ofString "true") ∧ (Str.ofString "num" ≠ Str.ofString "and") ∧ (Str.ofString "num" ≠ Str.ofString "or") ∧ (Str.ofString "num" ≠ Str.ofString "rows") ∧ (Str.ofString "num" ≠ Str.ofString "keep") ∧ (Str.ofString "num" ≠ Str.ofString "pick") ∧ (Str.ofString "num" ≠ Str.ofString "join") ∧ (Str.ofString "num" ≠ Str.ofString "both") ∧ (Str.ofString "num" ≠ Str.ofString "without") ∧ (Str.ofString "num" ≠ Str.ofString "sure") ∧ (Str.ofString "num" ≠ Str.ofString "maybe") ∧ (Str.ofString "num" ≠ Str.ofString "cell") ∧ (Str.ofString "num" ≠ Str.ofString "eq") ∧ (Str.ofString "num" ≠ Str.ofString "lt") ∧ (Str.ofString "num" ≠ Str.ofString "no") ∧ (Str.ofString "num" ≠ Str.ofString "all") ∧ (Str.ofString "num" ≠ Str.ofString "any") ∧ (Str.ofString "num" ≠ Str.ofString "pair") ∧ (Str.ofString "num" ≠ Str.ofString "missing") ∧ (Str.ofString "num" ≠ Str.ofString "tables") ∧ (Str.ofString "num" ≠ Str.ofString "sentence") ∧ (Str.ofString "num" ≠ Str.ofString "column") ∧ (Str.ofString "num" ≠ Str.ofString "top") ∧ (Str.ofString "num" ≠ Str.ofString "many") ∧ (Str.ofString "num" ≠ Str.ofString "text") ∧ (Str.ofString "num" ≠ Str.ofString "other") ∧ (Str.ofString "num" ≠ Str.ofString "met") ∧ (Str.ofString "num" ≠ Str.ofString "another") := by decide +kernel
@[simp] theorem wa3 : ((Str.ofString "plus" == Str.ofString "gap") = false) ∧ ((Str.ofString "plus" == Str.ofString "col") = false) ∧ ((Str.ofString "plus" == Str.ofString "num") = false) ∧ ((Str.ofString "plus" == Str.ofString "take") = false) ∧ ((Str.ofString "plus" == Str.ofString "is") = false) ∧ ((Str.ofString "plus" == Str.ofString "less") = false) ∧ ((Str.ofString "plus" == Str.ofString "lacks") = false) ∧ ((Str.ofString "plus" == Str.ofString "not") = false) ∧ ((Str.ofString "plus" == Str.ofString "true") = false) ∧ ((Str.ofString "plus" == Str.ofString "and") = false) ∧ ((Str.ofString "plus" == Str.ofString "or") = false) ∧ ((Str.ofString "plus" == Str.ofString "rows") = false) ∧ ((Str.ofString "plus" == Str.ofString "keep") = false) ∧ ((Str.ofString "plus" == Str.ofString "pick") = false) ∧ ((Str.ofString "plus" == Str.ofString "join") = false) ∧ ((Str.ofString "plus" == Str.ofString "both") = false) ∧ ((Str.ofString "plus" == Str.ofString "without") = false) ∧ ((Str.ofString "plus" == Str.ofString "sure") = false) ∧ ((Str.ofString "plus" == Str.ofString "maybe") = false) ∧ ((Str.ofString "plus" == Str.ofString "cell") = false) ∧ ((Str.ofString "plus" == Str.ofString "eq") = false) ∧ ((Str.ofString "plus" == Str.ofString "lt") = false) ∧ ((Str.ofString "plus" == Str.ofString "no") = false) ∧ ((Str.ofString "plus" == Str.ofString "all") = false) ∧ ((Str.ofString "plus" == Str.ofString "any") = false) ∧ ((Str.ofString "plus" == Str.ofString "pair") = false) ∧ ((Str.ofString "plus" == Str.ofString "missing") = false) ∧ ((Str.ofString "plus" == Str.ofString "tables") = false) ∧ ((Str.ofString "plus" == Str.ofString "sentence") = false) ∧ ((Str.ofString "plus" == Str.ofString "column") = false) ∧ ((Str.ofString "plus" == Str.ofString "top") = false) ∧ ((Str.ofString "plus" == Str.ofString "many") = false) ∧ ((Str.ofString "plus" == Str.ofString "text") = false) ∧ ((Str.ofString "plus" == Str.ofString "other") = false) ∧ ((Str.ofString "plus" == Str.ofString "met") = false) ∧ ((Str.ofString "plus" == Str.ofString "another") = false) := by decide +kernel
@[simp] theorem wb3 : (Str.ofString "plus" ≠ Str.ofString "gap") ∧ (Str.ofString "plus" ≠ Str.ofString "col") ∧ (Str.ofString "plus" ≠ Str.ofString "num") ∧ (Str.ofString "plus" ≠ Str.ofString "take") ∧ (Str.ofString "plus" ≠ Str.ofString "is") ∧ (Str.ofString "plus" ≠ Str.ofString "less") ∧ (Str.ofString "plus" ≠ Str.ofString "lacks") ∧ (Str.ofString "plus" ≠ Str.ofString "not") ∧ (Str.ofString "plus" ≠ Str.ofString "true") ∧ (Str.ofString "plus" ≠ Str.ofString "and") ∧ (Str.ofString "plus" ≠ Str.ofString "or") ∧ (Str.ofString "plus" ≠ Str.ofString "rows") ∧ (Str.ofString "plus" ≠ Str.ofString "keep") ∧ (Str.ofString "plus" ≠ Str.ofString "pick") ∧ (Str.ofString "plus" ≠ Str.ofString "join") ∧ (Str.ofString "plus" ≠ Str.ofString "both") ∧ (Str.ofString "plus" ≠ Str.ofString "without") ∧ (Str.ofString "plus" ≠ Str.ofString "sure") ∧ (Str.ofString "plus" ≠ Str.ofString "maybe") ∧ (Str.ofString "plus" ≠ Str.ofString "cell") ∧ (Str.ofString "plus" ≠ Str.ofString "eq") ∧ (Str.ofString "plus" ≠ Str.ofString "lt") ∧ (Str.ofString "plus" ≠ Str.ofString "no") ∧ (Str.ofString "plus" ≠ Str.ofString "all") ∧ (Str.ofString "plus" ≠ Str.ofString "any") ∧ (Str.ofString "plus" ≠ Str.ofString "pair") ∧ (Str.ofString "plus" ≠ Str.ofString "missing") ∧ (Str.ofString "plus" ≠ Str.ofString "tables") ∧ (Str.ofString "plus" ≠ Str.ofString "sentence") ∧ (Str.ofString "plus" ≠ Str.ofString "column") ∧ (Str.ofString "plus" ≠ Str.ofString "top") ∧ (Str.ofString "plus" ≠ Str.ofString "many") ∧ (Str.ofString "plus" ≠ Str.ofString "text") ∧ (Str.ofString "plus" ≠ Str.ofString "other") ∧ (Str.ofString "plus" ≠ Str.ofString "met") ∧ (Str.ofString "plus" ≠ Str.ofString "another") := by decide +kernel
@[simp] theorem wa4 : ((Str.ofString "take" == Str.ofString "gap") = false) ∧ ((Str.ofString "take" == Str.ofString "col") = false) ∧ ((Str.ofString "take" == Str.ofString "num") = false) ∧ ((Str.ofString "take" == Str.ofString "plus") = false) ∧ ((Str.ofString "take" == Str.ofString "is") = false) ∧ ((Str.ofString "take" == Str.ofString "less") = false) ∧ ((Str.ofString "take" == Str.ofString "lacks") = false) ∧ ((Str.ofString "take" == Str.ofString "not") = false) ∧ ((Str.ofString "take" == Str.ofString "true") = false) ∧ ((Str.ofString "take" == Str.ofString "and") = false) ∧ ((Str.ofString "take" == Str.ofString "or") = false) ∧ ((Str.ofString "take" == Str.ofString "rows") = false) ∧ ((Str.ofString "take" == Str.ofString "keep") = false) ∧ ((Str.ofString "take" == Str.ofString "pick") = false) ∧ ((Str.ofString "take" == Str.ofString "join") = false) ∧ ((Str.ofString "take" == Str.ofString "both") = false) ∧ ((Str.ofString "take" == Str.ofString "without") = false) ∧ ((Str.ofString "take" == Str.ofString "sure") = false) ∧ ((Str.ofString "take" == Str.ofString "maybe") = false) ∧ ((Str.ofString "take" == Str.ofString "cell") = false) ∧ ((Str.ofString "take" == Str.ofString "eq") = false) ∧ ((Str.ofString "take" == Str.ofString "lt") = false) ∧ ((Str.ofString "take" == Str.ofString "no") = false) ∧ ((Str.ofString "take" == Str.ofString "all") = false) ∧ ((Str.ofString "take" == Str.ofString "any") = false) ∧ ((Str.ofString "take" == Str.ofString "pair") = false) ∧ ((Str.ofString "take" == Str.ofString "missing") = false) ∧ ((Str.ofString "take" == Str.ofString "tables") = false) ∧ ((Str.ofString "take" == Str.ofString "sentence") = false) ∧ ((Str.ofString "take" == Str.ofString "column") = false) ∧ ((Str.ofString "take" == Str.ofString "top") = false) ∧ ((Str.ofString "take" == Str.ofString "many") = false) ∧ ((Str.ofString "take" == Str.ofString "text") = false) ∧ ((Str.ofString "take" == Str.ofString "other") = false) ∧ ((Str.ofString "take" == Str.ofString "met") = false) ∧ ((Str.ofString "take" == Str.ofString "another") = false) := by decide +kernel
@[simp] theorem wb4 : (Str.ofString "take" ≠ Str.ofString "gap") ∧ (Str.ofString "take" ≠ Str.ofString "col") ∧ (Str.ofString "take" ≠ Str.ofString "num") ∧ (Str.ofString "take" ≠ Str.ofString "plus") ∧ (Str.ofString "take" ≠ Str.ofString "is") ∧ (Str.ofString "take" ≠ Str.ofString "less") ∧ (Str.ofString "take" ≠ Str.ofString "lacks") ∧ (Str.ofString "take" ≠ Str.ofString "not") ∧ (Str.ofString "take" ≠ Str.ofString "true") ∧ (Str.ofString "take" ≠ Str.ofString "and") ∧ (Str.ofString "take" ≠ Str.ofString "or") ∧ (Str.ofString "take" ≠ Str.ofString "rows") ∧ (Str.ofString "take" ≠ Str.ofString "keep") ∧ (Str.ofString "take" ≠ Str.ofString "pick") ∧ (Str.ofString "take" ≠ Str.ofString "join") ∧ (Str.ofString "take" ≠ Str.ofString "both") ∧ (Str.ofString "take" ≠ Str.ofString "without") ∧ (Str.ofString "take" ≠ Str.ofString "sure") ∧ (Str.ofString "take" ≠ Str.ofString "maybe") ∧ (Str.ofString "take" ≠ Str.ofString "cell") ∧ (Str.ofString "take" ≠ Str.ofString "eq") ∧ (Str.ofString "take" ≠ Str.ofString "lt") ∧ (Str.ofString "take" ≠ Str.ofString "no") ∧ (Str.ofString "take" ≠ Str.ofString "all") ∧ (Str.ofString "take" ≠ Str.ofString "any") ∧ (Str.ofString "take" ≠ Str.ofString "pair") ∧ (Str.ofString "take" ≠ Str.ofString "missing") ∧ (Str.ofString "take" ≠ Str.ofString "tables") ∧ (Str.ofString "take" ≠ Str.ofString "sentence") ∧ (Str.ofString "take" ≠ Str.ofString "column") ∧ (Str.ofString "take" ≠ Str.ofString "top") ∧ (Str.ofString "take" ≠ Str.ofString "many") ∧ (Str.ofString "take" ≠ Str.ofString "text") ∧ (Str.ofString "take" ≠ Str.ofString "other") ∧ (Str.ofString "take" ≠ Str.ofString "met") ∧ (Str.ofString "take" ≠ Str.ofString "another") := by decide +kernel
@[simp] theorem wa5 : ((Str.ofString "is" == Str.ofString "gap") = false) ∧ ((Str.ofString "is" == Str.ofString "col") = false) ∧ ((Str.ofString "is" == Str.ofString "num") = false) ∧ ((Str.ofString "is" == Str.ofString "plus") = false) ∧ ((Str.ofString "is" == Str.ofString "take") = false) ∧ ((Str.ofString "is" == Str.ofString "less") = false) ∧ ((Str.ofString "is" == Str.ofString "lacks") = false) ∧ ((Str.ofString "is" == Str.ofString "not") = false) ∧ ((Str.ofString "is" == Str.ofString "true") = false) ∧ ((Str.ofString "is" == Str.ofString "and") = false) ∧ ((Str.ofString "is" == Str.ofString "or") = false) ∧ ((Str.ofString "is" == Str.ofString "rows") = false) ∧ ((Str.ofString "is" == Str.ofString "keep") = false) ∧ ((Str.ofString "is" == Str.ofString "pick") = false) ∧ ((Str.ofString "is" == Str.ofString "join") = false) ∧ ((Str.ofString "is" == Str.ofString "both") = false) ∧ ((Str.ofString "is" == Str.ofString "without") = false) ∧ ((Str.ofString "is" == Str.ofString "sure") = false) ∧ ((Str.ofString "is" == Str.ofString "maybe") = false) ∧ ((Str.ofString "is" == Str.ofString "cell") = false) ∧ ((Str.ofString "is" == Str.ofString "eq") = false) ∧ ((Str.ofString "is" == Str.ofString "lt") = false) ∧ ((Str.ofString "is" == Str.ofString "no") = false) ∧ ((Str.ofString "is" == Str.ofString "all") = false) ∧ ((Str.ofString "is" == Str.ofString "any") = false) ∧ ((Str.ofString "is" == Str.ofString "pair") = false) ∧ ((Str.ofString "is" == Str.ofString "missing") = false) ∧ ((Str.ofString "is" == Str.ofString "tables") = false) ∧ ((Str.ofString "is" == Str.ofString "sentence") = false) ∧ ((Str.ofString "is" == Str.ofString "column") = false) ∧ ((Str.ofString "is" == Str.ofString "top") = false) ∧ ((Str.ofString "is" == Str.ofString "many") = false) ∧ ((Str.ofString "is" == Str.ofString "text") = false) ∧ ((Str.ofString "is" == Str.ofString "other") = false) ∧ ((Str.ofString "is" == Str.ofString "met") = false) ∧ ((Str.ofString "is" == Str.ofString "another") = false) := by decide +kernel
@[simp] theorem wb5 : (Str.ofString "is" ≠ Str.ofString "gap") ∧ (Str.ofString "is" ≠ Str.ofString "col") ∧ (Str.ofString "is" ≠ Str.ofString "num") ∧ (Str.ofString "is" ≠ Str.ofString "plus") ∧ (Str.ofString "is" ≠ Str.ofString "take") ∧ (Str.ofString "is" ≠ Str.ofString "less") ∧ (Str.ofString "is" ≠ Str.ofString "lacks") ∧ (Str.ofString "is" ≠ Str.ofString "not") ∧ (Str.ofString "is" ≠ Str.ofString "true") ∧ (Str.ofString "is" ≠ Str.ofString "and") ∧ (Str.ofString "is" ≠ Str.ofString "or") ∧ (Str.ofString "is" ≠ Str.ofString "rows") ∧ (Str.ofString "is" ≠ Str.ofString "keep") ∧ (Str.ofString "is" ≠ Str.ofString "pick") ∧ (Str.ofString "is" ≠ Str.ofString "join") ∧ (Str.ofString "is" ≠ Str.ofString "both") ∧ (Str.ofString "is" ≠ Str.ofString "without") ∧ (Str.ofString "is" ≠ Str.ofString "sure") ∧ (Str.ofString "is" ≠ Str.ofString "maybe") ∧ (Str.ofString "is" ≠ Str.ofString "cell") ∧ (Str.ofString "is" ≠ Str.ofString "eq") ∧ (Str.ofString "is" ≠ Str.ofString "lt") ∧ (Str.ofString "is" ≠ Str.ofString "no") ∧ (Str.ofString "is" ≠ Str.ofString "all") ∧ (Str.ofString "is" ≠ Str.ofString "any") ∧ (Str.ofString "is" ≠ Str.ofString "pair") ∧ (Str.ofString "is" ≠ Str.ofString "missing") ∧ (Str.ofString "is" ≠ Str.ofString "tables") ∧ (Str.ofString "is" ≠ Str.ofString "sentence") ∧ (Str.ofString "is" ≠ Str.ofString "column") ∧ (Str.ofString "is" ≠ Str.ofString "top") ∧ (Str.ofString "is" ≠ Str.ofString "many") ∧ (Str.ofString "is" ≠ Str.ofString "text") ∧ (Str.ofString "is" ≠ Str.ofString "other") ∧ (Str.ofString "is" ≠ Str.ofString "met") ∧ (Str.ofString "is" ≠ Str.ofString "another") := by decide +kernel
@[simp] theorem wa6 : ((Str.ofString "less" == Str.ofString "gap") = false) ∧ ((Str.ofString "less" == Str.ofString "col") = false) ∧ ((Str.ofString "less" == Str.ofString "num") = false) ∧ ((Str.ofString "less" == Str.ofString "plus") = false) ∧ ((Str.ofString "less" == Str.ofString "take") = false) ∧ ((Str.ofString "less" == Str.ofString "is") = false) ∧ ((Str.ofString "less" == Str.ofString "lacks") = false) ∧ ((Str.ofString "less" == Str.ofString "not") = false) ∧ ((Str.ofString "less" == Str.ofString "true") = false) ∧ ((Str.ofString "less" == Str.ofString "and") = false) ∧ ((Str.ofString "less" == Str.ofString "or") = false) ∧ ((Str.ofString "less" == Str.ofString "rows") = false) ∧ ((Str.ofString "less" == Str.ofString "keep") = false) ∧ ((Str.ofString "less" == Str.ofString "pick") = false) ∧ ((Str.ofString "less" == Str.ofString "join") = false) ∧ ((Str.ofString "less" == Str.ofString "both") = false) ∧ ((Str.ofString "less" == Str.ofString "without") = false) ∧ ((Str.ofString "less" == Str.ofString "sure") = false) ∧ ((Str.ofString "less" == Str.ofString "maybe") = false) ∧ ((Str.ofString "less" == Str.ofString "cell") = false) ∧ ((Str.ofString "less" == Str.ofString "eq") = false) ∧ ((Str.ofString "less" == Str.ofString "lt") = false) ∧ ((Str.ofString "less" == Str.ofString "no") = false) ∧ ((Str.ofString "less" == Str.ofString "all") = false) ∧ ((Str.ofString "less" == Str.ofString "any") = false) ∧ ((Str.ofString "less" == Str.ofString "pair") = false) ∧ ((Str.ofString "less" == Str.ofString "missing") = false) ∧ ((Str.ofString "less" == Str.ofString "tables") = false) ∧ ((Str.ofString "less" == Str.ofString "sentence") = false) ∧ ((Str.ofString "less" == Str.ofString "column") = false) ∧ ((Str.ofString "less" == Str.ofString "top") = false) ∧ ((Str.ofString "less" == Str.ofString "many") = false) ∧ ((Str.ofString "less" == Str.ofString "text") = false) ∧ ((Str.ofString "less" == Str.ofString "other") = false) ∧ ((Str.ofString "less" == Str.ofString "met") = false) ∧ ((Str.ofString "less" == Str.ofString "another") = false) := by decide +kernel
@[simp] theorem wb6 : (Str.ofString "less" ≠ Str.ofString "gap") ∧ (Str.ofString "less" ≠ Str.ofString "col") ∧ (Str.ofString "less" ≠ Str.ofString "num") ∧ (Str.ofString "less" ≠ Str.ofString "plus") ∧ (Str.ofString "less" ≠ Str.ofString "take") ∧ (Str.ofString "less" ≠ Str.ofString "is") ∧ (Str.ofString "less" ≠ Str.ofString "lacks") ∧ (Str.ofString "less" ≠ Str.ofString "not") ∧ (Str.ofString "less" ≠ Str.ofString "true") ∧ (Str.ofString "less" ≠ Str.ofString "and") ∧ (Str.ofString "less" ≠ Str.ofString "or") ∧ (Str.ofString "less" ≠ Str.ofString "rows") ∧ (Str.ofString "less" ≠ Str.ofString "keep") ∧ (Str.ofString "less" ≠ Str.ofString "pick") ∧ (Str.ofString "less" ≠ Str.ofString "join") ∧ (Str.ofString "less" ≠ Str.ofString "both") ∧ (Str.ofString "less" ≠ Str.ofString "without") ∧ (Str.ofString "less" ≠ Str.ofString "sure") ∧ (Str.ofString "less" ≠ Str.ofString "maybe") ∧ (Str.ofString "less" ≠ Str.ofString "cell") ∧ (Str.ofString "less" ≠ Str.ofString "eq") ∧ (Str.ofString "less" ≠ Str.ofString "lt") ∧ (Str.ofString "less" ≠ Str.ofString "no") ∧ (Str.ofString "less" ≠ Str.ofString "all") ∧ (Str.ofString "less" ≠ Str.ofString "any") ∧ (Str.ofString "less" ≠ Str.ofString "pair") ∧ (Str.ofString "less" ≠ Str.ofString "missing") ∧ (Str.ofString "less" ≠ Str.ofString "tables") ∧ (Str.ofString "less" ≠ Str.ofString "sentence") ∧ (Str.ofString "less" ≠ Str.ofString "column") ∧ (Str.ofString "less" ≠ Str.ofString "top") ∧ (Str.ofString "less" ≠ Str.ofString "many") ∧ (Str.ofString "less" ≠ Str.ofString "text") ∧ (Str.ofString "less" ≠ Str.ofString "other") ∧ (Str.ofString "less" ≠ Str.ofString "met") ∧ (Str.ofString "less" ≠ Str.ofString "another") := by decide +kernel
@[simp] theorem wa7 : ((Str.ofString "lacks" == Str.ofString "gap") = false) ∧ ((Str.ofString "lacks" == Str.ofString "col") = false) ∧ ((Str.ofString "lacks" == Str.ofString "num") = false) ∧ ((Str.ofString "lacks" == Str.ofString "plus") = false) ∧ ((Str.ofString "lacks" == Str.ofString "take") = false) ∧ ((Str.ofString "lacks" == Str.ofString "is") = false) ∧ ((Str.ofString "lacks" == Str.ofString "less") = false) ∧ ((Str.ofString "lacks" == Str.ofString "not") = false) ∧ ((Str.ofString "lacks" == Str.ofString "true") = false) ∧ ((Str.ofString "lacks" == Str.ofString "and") = false) ∧ ((Str.ofString "lacks" == Str.ofString "or") = false) ∧ ((Str.ofString "lacks" == Str.ofString "rows") = false) ∧ ((Str.ofString "lacks" == Str.ofString "keep") = false) ∧ ((Str.ofString "lacks" == Str.ofString "pick") = false) ∧ ((Str.ofString "lacks" == Str.ofString "join") = false) ∧ ((Str.ofString "lacks" == Str.ofString "both") = false) ∧ ((Str.ofString "lacks" == Str.ofString "without") = false) ∧ ((Str.ofString "lacks" == Str.ofString "sure") = false) ∧ ((Str.ofString "lacks" == Str.ofString "maybe") = false) ∧ ((Str.ofString "lacks" == Str.ofString "cell") = false) ∧ ((Str.ofString "lacks" == Str.ofString "eq") = false) ∧ ((Str.ofString "lacks" == Str.ofString "lt") = false) ∧ ((Str.ofString "lacks" == Str.ofString "no") = false) ∧ ((Str.ofString "lacks" == Str.ofString "all") = false) ∧ ((Str.ofString "lacks" == Str.ofString "any") = false) ∧ ((Str.ofString "lacks" == Str.ofString "pair") = false) ∧ ((Str.ofString "lacks" == Str.ofString "missing") = false) ∧ ((Str.ofString "lacks" == Str.ofString "tables") = false) ∧ ((Str.ofString "lacks" == Str.ofString "sentence") = false) ∧ ((Str.ofString "lacks" == Str.ofString "column") = false) ∧ ((Str.ofString "lacks" == Str.ofString "top") = false) ∧ ((Str.ofString "lacks" == Str.ofString "many") = false) ∧ ((Str.ofString "lacks" == Str.ofString "text") = false) ∧ ((Str.ofString "lacks" == Str.ofString "other") = false) ∧ ((Str.ofString "lacks" == Str.ofString "met") = false) ∧ ((Str.ofString "lacks" == Str.ofString "another") = false) := by decide +kernel
@[simp] theorem wb7 : (Str.ofString "lacks" ≠ Str.ofString "gap") ∧ (Str.ofString "lacks" ≠ Str.ofString "col") ∧ (Str.ofString "lacks" ≠ Str.ofString "num") ∧ (Str.ofString "lacks" ≠ Str.ofString "plus") ∧ (Str.ofString "lacks" ≠ Str.ofString "take") ∧ (Str.ofString "lacks" ≠ Str.ofString "is") ∧ (Str.ofString "lacks" ≠ Str.ofString "less") ∧ (Str.ofString "lacks" ≠ Str.ofString "not") ∧ (Str.ofString "lacks" ≠ Str.ofString "true") ∧ (Str.ofString "lacks" ≠ Str.ofString "and") ∧ (Str.ofString "lacks" ≠ Str.ofString "or") ∧ (Str.ofString "lacks" ≠ Str.ofString "rows") ∧ (Str.ofString "lacks" ≠ Str.ofString "keep") ∧ (Str.ofString "lacks" ≠ Str.ofString "pick") ∧ (Str.ofString "lacks" ≠ Str.ofString "join") ∧ (Str.ofString "lacks" ≠ Str.ofString "both") ∧ (Str.ofString "lacks" ≠ Str.ofString "without") ∧ (Str.ofString "lacks" ≠ Str.ofString "sure") ∧ (Str.ofString "lacks" ≠ Str.ofString "maybe") ∧ (Str.ofString "lacks" ≠ Str.ofString "cell") ∧ (Str.ofString "lacks" ≠ Str.ofString "eq") ∧ (Str.ofString "lacks" ≠ Str.ofString "lt") ∧ (Str.ofString "lacks" ≠ Str.ofString "no") ∧ (Str.ofString "lacks" ≠ Str.ofString "all") ∧ (Str.ofString "lacks" ≠ Str.ofString "any") ∧ (Str.ofString "lacks" ≠ Str.ofString "pair") ∧ (Str.ofString "lacks" ≠ Str.ofString "missing") ∧ (Str.ofString "lacks" ≠ Str.ofString "tables") ∧ (Str.ofString "lacks" ≠ Str.ofString "sentence") ∧ (Str.ofString "lacks" ≠ Str.ofString "column") ∧ (Str.ofString "lacks" ≠ Str.ofString "top") ∧ (Str.ofString "lacks" ≠ Str.ofString "many") ∧ (Str.ofString "lacks" ≠ Str.ofString "text") ∧ (Str.ofString "lacks" ≠ Str.ofString "other") ∧ (Str.ofString "lacks" ≠ Str.ofString "met") ∧ (Str.ofString "lacks" ≠ Str.ofString "another") := by decide +kernel
@[simp] theorem wa8 : ((Str.ofString "not" == Str.ofString "gap") = false) ∧ ((Str.ofString "not" == Str.ofString "col") = false) ∧ ((Str.ofString "not" == Str.ofString "num") = false) ∧ ((Str.ofString "not" == Str.ofString "plus") = false) ∧ ((Str.ofString "not" == Str.ofString "take") = false) ∧ ((Str.ofString "not" == Str.ofString "is") = false) ∧ ((Str.ofString "not" == Str.ofString "less") = false) ∧ ((Str.ofString "not" == Str.ofString "lacks") = false) ∧ ((Str.ofString "not" == Str.ofString "true") = false) ∧ ((Str.ofString "not" == Str.ofString "and") = false) ∧ ((Str.ofString "not" == Str.ofString "or") = false) ∧ ((Str.ofString "not" == Str.ofString "rows") = false) ∧ ((Str.ofString "not" == Str.ofString "keep") = false) ∧ ((Str.ofString "not" == Str.ofString "pick") = false) ∧ ((Str.ofString "not" == Str.ofString "join") = false) ∧ ((Str.ofString "not" == Str.ofString "both") = false) ∧ ((Str.ofString "not" == Str.ofString "without") = false) ∧ ((Str.ofString "not" == Str.ofString "sure") = false) ∧ ((Str.ofString "not" == Str.ofString "maybe") = false) ∧ ((Str.ofString "not" == Str.ofString "cell") = false) ∧ ((Str.ofString "not" == Str.ofString "eq") = false) ∧ ((Str.ofString "not" == Str.ofString "lt") = false) ∧ ((Str.ofString "not" == Str.ofString "no") = false) ∧ ((Str.ofString "not" == Str.ofString "all") = false) ∧ ((Str.ofString "not" == Str.ofString "any") = false) ∧ ((Str.ofString "not" == Str.ofString "pair") = false) ∧ ((Str.ofString "not" == Str.ofString "missing") = false) ∧ ((Str.ofString "not" == Str.ofString "tables") = false) ∧ ((Str.ofString "not" == Str.ofString "sentence") = false) ∧ ((Str.ofString "not" == Str.ofString "column") = false) ∧ ((Str.ofString "not" == Str.ofString "top") = false) ∧ ((Str.ofString "not" == Str.ofString "many") = false) ∧ ((Str.ofString "not" == Str.ofString "text") = false) ∧ ((Str.ofString "not" == Str.ofString "other") = false) ∧ ((Str.ofString "not" == Str.ofString "met") = false) ∧ ((Str.ofString "not" == Str.ofString "another") = false) := by decide +kernel
@[simp] theorem wb8 : (Str.ofString "not" ≠ Str.ofString "gap") ∧ (Str.ofString "not" ≠ Str.ofString "col") ∧ (Str.ofString "not" ≠ Str.ofString "num") ∧ (Str.ofString "not" ≠ Str.ofString "plus") ∧ (Str.ofString "not" ≠ Str.ofString "take") ∧ (Str.ofString "not" ≠ Str.ofString "is") ∧ (Str.ofString "not" ≠ Str.ofString "less") ∧ (Str.ofString "not" ≠ Str.ofString "lacks") ∧ (Str.ofString "not" ≠ Str.ofString "true") ∧ (Str.ofString "not" ≠ Str.ofString "and") ∧ (Str.ofString "not" ≠ Str.ofString "or") ∧ (Str.ofString "not" ≠ Str.ofString "rows") ∧ (Str.ofString "not" ≠ Str.ofString "keep") ∧ (Str.ofString "not" ≠ Str.ofString "pick") ∧ (Str.ofString "not" ≠ Str.ofString "join") ∧ (Str.ofString "not" ≠ Str.ofString "both") ∧ (Str.ofString "not" ≠ Str.ofString "without") ∧ (Str.ofString "not" ≠ Str.ofString "sure") ∧ (Str.ofString "not" ≠ Str.ofString "maybe") ∧ (Str.ofString "not" ≠ Str.ofString "cell") ∧ (Str.ofString "not" ≠ Str.ofString "eq") ∧ (Str.ofString "not" ≠ Str.ofString "lt") ∧ (Str.ofString "not" ≠ Str.ofString "no") ∧ (Str.ofString "not" ≠ Str.ofString "all") ∧ (Str.ofString "not" ≠ Str.ofString "any") ∧ (Str.ofString "not" ≠ Str.ofString "pair") ∧ (Str.ofString "not" ≠ Str.ofString "missing") ∧ (Str.ofString "not" ≠ Str.ofString "tables") ∧ (Str.ofString "not" ≠ Str.ofString "sentence") ∧ (Str.ofString "not" ≠ Str.ofString "column") ∧ (Str.ofString "not" ≠ Str.ofString "top") ∧ (Str.ofString "not" ≠ Str.ofString "many") ∧ (Str.ofString "not" ≠ Str.ofString "text") ∧ (Str.ofString "not" ≠ Str.ofString "other") ∧ (Str.ofString "not" ≠ Str.ofString "met") ∧ (Str.ofString "not" ≠ Str.ofString "another") := by decide +kernel
@[simp] theorem wa9 : ((Str.ofString "true" == Str.ofString "gap") = false) ∧ ((Str.ofString "true" == Str.ofString "col") = false) ∧ ((Str.ofString "true" == Str.ofString "num") = false) ∧ ((Str.ofString "true" == Str.ofString "plus") = false) ∧ ((Str.ofString "true" == Str.ofString "take") = false) ∧ ((Str.ofString "true" == Str.ofString "is") = false) ∧ ((Str.ofString "true" == Str.ofString "less") = false) ∧ ((Str.ofString "true" == Str.ofString "lacks") = false) ∧ ((Str.ofString "true" == Str.ofString "not") = false) ∧ ((Str.ofString "true" == Str.ofString "and") = false) ∧ ((Str.ofString "true" == Str.ofString "or") = false) ∧ ((Str.ofString "true" == Str.ofString "rows") = false) ∧ ((Str.ofString "true" == Str.ofString "keep") = false) ∧ ((Str.ofString "true" == Str.ofString "pick") = false) ∧ ((Str.ofString "true" == Str.ofString "join") = false) ∧ ((Str.ofString "true" == Str.ofString "both") = false) ∧ ((Str.ofString "true" == Str.ofString "without") = false) ∧ ((Str.ofString "true" == Str.ofString "sure") = false) ∧ ((Str.ofString "true" == Str.ofString "maybe") = false) ∧ ((Str.ofString "true" == Str.ofString "cell") = false) ∧ ((Str.ofString "true" == Str.ofString "eq") = false) ∧ ((Str.ofString "true" == Str.ofString "lt") = false) ∧ ((Str.ofString "true" == Str.ofString "no") = false) ∧ ((Str.ofString "true" == Str.ofString "all") = false) ∧ ((Str.ofString "true" == Str.ofString "any") = false) ∧ ((Str.ofString "true" == Str.ofString "pair") = false) ∧ ((Str.ofString "true" == Str.ofString "missing") = false) ∧ ((Str.ofString "true" == Str.ofString "tables") = false) ∧ ((Str.ofString "true" == Str.ofString "sentence") = false) ∧ ((Str.ofString "true" == Str.ofString "column") = false) ∧ ((Str.ofString "true" == Str.ofString "top") = false) ∧ ((Str.ofString "true" == Str.ofString "many") = false) ∧ ((Str.ofString "true" == Str.ofString "text") = false) ∧ ((Str.ofString "true" == Str.ofString "other") = false) ∧ ((Str.ofString "true" == Str.ofString "met") = false) ∧ ((Str.ofString "true" == Str.ofString "another") = false) := by decide +kernel
@[simp] theorem wb9 : (Str.ofString "true" ≠ Str.ofString "gap") ∧ (Str.ofString "true" ≠ Str.ofString "col") ∧ (Str.ofString "true" ≠ Str.ofString "num") ∧ (Str.ofString "true" ≠ Str.ofString "plus") ∧ (Str.ofString "true" ≠ Str.ofString "take") ∧ (Str.ofString "true" ≠ Str.ofString "is") ∧ (Str.ofString "true" ≠ Str.ofString "less") ∧ (Str.ofString "true" ≠ Str.ofString "lacks") ∧ (Str.ofString "true" ≠ Str.ofString "not") ∧ (Str.ofString "true" ≠ Str.ofString "and") ∧ (Str.ofString "true" ≠ Str.ofString "or") ∧ (Str.ofString "true" ≠ Str.ofString "rows") ∧ (Str.ofString "true" ≠ Str.ofString "keep") ∧ (Str.ofString "true" ≠ Str.ofString "pick") ∧ (Str.ofString "true" ≠ Str.ofString "join") ∧ (Str.ofString "true" ≠ Str.ofString "both") ∧ (Str.ofString "true" ≠ Str.ofString "without") ∧ (Str.ofString "true" ≠ Str.ofString "sure") ∧ (Str.ofString "true" ≠ Str.ofString "maybe") ∧ (Str.ofString "true" ≠ Str.ofString "cell") ∧ (Str.ofString "true" ≠ Str.ofString "eq") ∧ (Str.ofString "true" ≠ Str.ofString "lt") ∧ (Str.ofString "true" ≠ Str.ofString "no") ∧ (Str.ofString "true" ≠ Str.ofString "all") ∧ (Str.ofString "true" ≠ Str.ofString "any") ∧ (Str.ofString "true" ≠ Str.ofString "pair") ∧ (Str.ofString "true" ≠ Str.ofString "missing") ∧ (Str.ofString "true" ≠ Str.ofString "tables") ∧ (Str.ofString "true" ≠ Str.ofString "sentence") ∧ (Str.ofString "true" ≠ Str.ofString "column") ∧ (Str.ofString "true" ≠ Str.ofString "top") ∧ (Str.ofString "true" ≠ Str.ofString "many") ∧ (Str.ofString "true" ≠ Str.ofString "text") ∧ (Str.ofString "true" ≠ Str.ofString "other") ∧ (Str.ofString "true" ≠ Str.ofString "met") ∧ (Str.ofString "true" ≠ Str.ofString "another") := by decide +kernel
@[simp] theorem wa10 : ((Str.ofString "and" == Str.ofString "gap") = false) ∧ ((Str.ofString "and" == Str.ofString "col") = false) ∧ ((Str.ofString "and" == Str.ofString "num") = false) ∧ ((Str.ofString "and" == Str.ofString "plus") = false) ∧ ((Str.ofString "and" == Str.ofString "take") = false) ∧ ((Str.ofString "and" == Str.ofString "is") = false) ∧ ((Str.ofString "and" == Str.ofString "less") = false) ∧ ((Str.ofString "and" == Str.ofString "lacks") = false) ∧ ((Str.ofString "and" == Str.ofString "not") = false) ∧ ((Str.ofString "and" == Str.ofString "true") = false) ∧ ((Str.ofString "and" == Str.ofString "or") = false) ∧ ((Str.ofString "and" == Str.ofString "rows") = false) ∧ ((Str.ofString "and" == Str.ofString "keep") = false) ∧ ((Str.ofString "and" == Str.ofString "pick") = false) ∧ ((Str.ofString "and" == Str.ofString "join") = false) ∧ ((Str.ofString "and" == Str.ofString "both") = false) ∧ ((Str.ofString "and" == Str.ofString "without") = false) ∧ ((Str.ofString "and" == Str.ofString "sure") = false) ∧ ((Str.ofString "and" == Str.ofString "maybe") = false) ∧ ((Str.ofString "and" == Str.ofString "cell") = false) ∧ ((Str.ofString "and" == Str.ofString "eq") = false) ∧ ((Str.ofString "and" == Str.ofString "lt") = false) ∧ ((Str.ofString "and" == Str.ofString "no") = false) ∧ ((Str.ofString "and" == Str.ofString "all") = false) ∧ ((Str.ofString "and" == Str.ofString "any") = false) ∧ ((Str.ofString "and" == Str.ofString "pair") = false) ∧ ((Str.ofString "and" == Str.ofString "missing") = false) ∧ ((Str.ofString "and" == Str.ofString "tables") = false) ∧ ((Str.ofString "and" == Str.ofString "sentence") = false) ∧ ((Str.ofString "and" == Str.ofString "column") = false) ∧ ((Str.ofString "and" == Str.ofString "top") = false) ∧ ((Str.ofString "and" == Str.ofString "many") = false) ∧ ((Str.ofString "and" == Str.ofString "text") = false) ∧ ((Str.ofString "and" == Str.ofString "other") = false) ∧ ((Str.ofString "and" == Str.ofString "met") = false) ∧ ((Str.ofString "and" == Str.ofString "another") = false) := by decide +kernel
@[simp] theorem wb10 : (Str.ofString "and" ≠ Str.ofString "gap") ∧ (Str.ofString "and" ≠ Str.ofString "col") ∧ (Str.ofString "and" ≠ Str.ofString "num") ∧ (Str.ofString "and" ≠ Str.ofString "plus") ∧ (Str.ofString "and" ≠ Str.ofString "take") ∧ (Str.ofString "and" ≠ Str.ofString "is") ∧ (Str.ofString "and" ≠ Str.ofString "less") ∧ (Str.ofString "and" ≠ Str.ofString "lacks") ∧ (Str.ofString "and" ≠ Str.ofString "not") ∧ (Str.ofString "and" ≠ Str.ofString "true") ∧ (Str.ofString "and" ≠ Str.ofString "or") ∧ (Str.ofString "and" ≠ Str.ofString "rows") ∧ (Str.ofString "and" ≠ Str.ofString "keep") ∧ (Str.ofString "and" ≠ Str.ofString "pick") ∧ (Str.ofString "and" ≠ Str.ofString "join") ∧ (Str.ofString "and" ≠ Str.ofString "both") ∧ (Str.ofString "and" ≠ Str.ofString "without") ∧ (Str.ofString "and" ≠ Str.ofString "sure") ∧ (Str.ofString "and" ≠ Str.ofString "maybe") ∧ (Str.ofString "and" ≠ Str.ofString "cell") ∧ (Str.ofString "and" ≠ Str.ofString "eq") ∧ (Str.ofString "and" ≠ Str.ofString "lt") ∧ (Str.ofString "and" ≠ Str.ofString "no") ∧ (Str.ofString "and" ≠ Str.ofString "all") ∧ (Str.ofString "and" ≠ Str.ofString "any") ∧ (Str.ofString "and" ≠ Str.ofString "pair") ∧ (Str.ofString "and" ≠ Str.ofString "missing") ∧ (Str.ofString "and" ≠ Str.ofString "tables") ∧ (Str.ofString "and" ≠ Str.ofString "sentence") ∧ (Str.ofString "and" ≠ Str.ofString "column") ∧ (Str.ofString "and" ≠ Str.ofString "top") ∧ (Str.ofString "and" ≠ Str.ofString "many") ∧ (Str.ofString "and" ≠ Str.ofString "text") ∧ (Str.ofString "and" ≠ Str.ofString "other") ∧ (Str.ofString "and" ≠ Str.ofString "met") ∧ (Str.ofString "and" ≠ Str.ofString "another") := by decide +kernel
@[simp] theorem wa11 : ((Str.ofString "or" == Str.ofString "gap") = false) ∧ ((Str.ofString "or" == Str.ofString "col") = false) ∧ ((Str.ofString "or" == Str.ofString "num") = false) ∧ ((Str.ofString "or" == Str.ofString "plus") = false) ∧ ((Str.ofString "or" == Str.ofString "take") = false) ∧ ((Str.ofString "or" == Str.ofString "is") = false) ∧ ((Str.ofString "or" == Str.ofString "less") = false) ∧ ((Str.ofString "or" == Str.ofString "lacks") = false) ∧ ((Str.ofString "or" == Str.ofString "not") = false) ∧ ((Str.ofString "or" == Str.ofString "true") = false) ∧ ((Str.ofString "or" == Str.ofString "and") = false) ∧ ((Str.ofString "or" == Str.ofString "rows") = false) ∧ ((Str.ofString "or" == Str.ofString "keep") = false) ∧ ((Str.ofString "or" == Str.ofString "pick") = false) ∧ ((Str.ofString "or" == Str.ofString "join") = false) ∧ ((Str.ofString "or" == Str.ofString "both") = false) ∧ ((Str.ofString "or" == Str.ofString "without") = false) ∧ ((Str.ofString "or" == Str.ofString "sure") = false) ∧ ((Str.ofString "or" == Str.ofString "maybe") = false) ∧ ((Str.ofString "or" == Str.ofString "cell") = false) ∧ ((Str.ofString "or" == Str.ofString "eq") = false) ∧ ((Str.ofString "or" == Str.ofString "lt") = false) ∧ ((Str.ofString "or" == Str.ofString "no") = false) ∧ ((Str.ofString "or" == Str.ofString "all") = false) ∧ ((Str.ofString "or" == Str.ofString "any") = false) ∧ ((Str.ofString "or" == Str.ofString "pair") = false) ∧ ((Str.ofString "or" == Str.ofString "missing") = false) ∧ ((Str.ofString "or" == Str.ofString "tables") = false) ∧ ((Str.ofString "or" == Str.ofString "sentence") = false) ∧ ((Str.ofString "or" == Str.ofString "column") = false) ∧ ((Str.ofString "or" == Str.ofString "top") = false) ∧ ((Str.ofString "or" == Str.ofString "many") = false) ∧ ((Str.ofString "or" == Str.ofString "text") = false) ∧ ((Str.ofString "or" == Str.ofString "other") = false) ∧ ((Str.ofString "or" == Str.ofString "met") = false) ∧ ((Str.ofString "or" == Str.ofString "another") = false) := by decide +kernel
@[simp] theorem wb11 : (Str.ofString "or" ≠ Str.ofString "gap") ∧ (Str.ofString "or" ≠ Str.ofString "col") ∧ (Str.ofString "or" ≠ Str.ofString "num") ∧ (Str.ofString "or" ≠ Str.ofString "plus") ∧ (Str.ofString "or" ≠ Str.ofString "take") ∧ (Str.ofString "or" ≠ Str.ofString "is") ∧ (Str.ofString "or" ≠ Str.ofString "less") ∧ (Str.ofString "or" ≠ Str.ofString "lacks") ∧ (Str.ofString "or" ≠ Str.ofString "not") ∧ (Str.ofString "or" ≠ Str.ofString "true") ∧ (Str.ofString "or" ≠ Str.ofString "and") ∧ (Str.ofString "or" ≠ Str.ofString "rows") ∧ (Str.ofString "or" ≠ Str.ofString "keep") ∧ (Str.ofString "or" ≠ Str.ofString "pick") ∧ (Str.ofString "or" ≠ Str.ofString "join") ∧ (Str.ofString "or" ≠ Str.ofString "both") ∧ (Str.ofString "or" ≠ Str.ofString "without") ∧ (Str.ofString "or" ≠ Str.ofString "sure") ∧ (Str.ofString "or" ≠ Str.ofString "maybe") ∧ (Str.ofString "or" ≠ Str.ofString "cell") ∧ (Str.ofString "or" ≠ Str.ofString "eq") ∧ (Str.ofString "or" ≠ Str.ofString "lt") ∧ (Str.ofString "or" ≠ Str.ofString "no") ∧ (Str.ofString "or" ≠ Str.ofString "all") ∧ (Str.ofString "or" ≠ Str.ofString "any") ∧ (Str.ofString "or" ≠ Str.ofString "pair") ∧ (Str.ofString "or" ≠ Str.ofString "missing") ∧ (Str.ofString "or" ≠ Str.ofString "tables") ∧ (Str.ofString "or" ≠ Str.ofString "sentence") ∧ (Str.ofString "or" ≠ Str.ofString "column") ∧ (Str.ofString "or" ≠ Str.ofString "top") ∧ (Str.ofString "or" ≠ Str.ofString "many") ∧ (Str.ofString "or" ≠ Str.ofString "text") ∧ (Str.ofString "or" ≠ Str.ofString "other") ∧ (Str.ofString "or" ≠ Str.ofString "met") ∧ (Str.ofString "or" ≠ Str.ofString "another") := by decide +kernel
@[simp] theorem wa12 : ((Str.ofString "rows" == Str.ofString "gap") = false) ∧ ((Str.ofString "rows" == Str.ofString "col") = false) ∧ ((Str.ofString "rows" == Str.ofString "num") = false) ∧ ((Str.ofString "rows" == Str.ofString "plus") = false) ∧ ((Str.ofString "rows" == Str.ofString "take") = false) ∧ ((Str.ofString "rows" == Str.ofString "is") = false) ∧ ((Str.ofString "rows" == Str.ofString "less") = false) ∧ ((Str.ofString "rows" == Str.ofString "lacks") = false) ∧ ((Str.ofString "rows" == Str.ofString "not") = false) ∧ ((Str.ofString "rows" == Str.ofString "true") = false) ∧ ((Str.ofString "rows" == Str.ofString "and") = false) ∧ ((Str.ofString "rows" == Str.ofString "or") = false) ∧ ((Str.ofString "rows" == Str.ofString "keep") = false) ∧ ((Str.ofString "rows" == Str.ofString "pick") = false) ∧ ((Str.ofString "rows" == Str.ofString "join") = false) ∧ ((Str.ofString "rows" == Str.ofString "both") = false) ∧ ((Str.ofString "rows" == Str.ofString "without") = false) ∧ ((Str.ofString "rows" == Str.ofString "sure") = false) ∧ ((Str.ofString "rows" == Str.ofString "maybe") = false) ∧ ((Str.ofString "rows" == Str.ofString "cell") = false) ∧ ((Str.ofString "rows" == Str.ofString "eq") = false) ∧ ((Str.ofString "rows" == Str.ofString "lt") = false) ∧ ((Str.ofString "rows" == Str.ofString "no") = false) ∧ ((Str.ofString "rows" == Str.ofString "all") = false) ∧ ((Str.ofString "rows" == Str.ofString "any") = false) ∧ ((Str.ofString "rows" == Str.ofString "pair") = false) ∧ ((Str.ofString "rows" == Str.ofString "missing") = false) ∧ ((Str.ofString "rows" == Str.ofString "tables") = false) ∧ ((Str.ofString "rows" == Str.ofString "sentence") = false) ∧ ((Str.ofString "rows" == Str.ofString "column") = false) ∧ ((Str.ofString "rows" == Str.ofString "top") = false) ∧ ((Str.ofString "rows" == Str.ofString "many") = false) ∧ ((Str.ofString "rows" == Str.ofString "text") = false) ∧ ((Str.ofString "rows" == Str.ofString "other") = false) ∧ ((Str.ofString "rows" == Str.ofString "met") = false) ∧ ((Str.ofString "rows" == Str.ofString "another") = false) := by decide +kernel
@[simp] theorem wb12 : (Str.ofString "rows" ≠ Str.ofString "gap") ∧ (Str.ofString "rows" ≠ Str.ofString "col") ∧ (Str.ofString "rows" ≠ Str.ofString "num") ∧ (Str.ofString "rows" ≠ Str.ofString "plus") ∧ (Str.ofString "rows" ≠ Str.ofString "take") ∧ (Str.ofString "rows" ≠ Str.ofString "is") ∧ (Str.ofString "rows" ≠ Str.ofString "less") ∧ (Str.ofString "rows" ≠ Str.ofString "lacks") ∧ (Str.ofString "rows" ≠ Str.ofString "not") ∧ (Str.ofString "rows" ≠ Str.ofString "true") ∧ (Str.ofString "rows" ≠ Str.ofString "and") ∧ (Str.ofString "rows" ≠ Str.ofString "or") ∧ (Str.ofString "rows" ≠ Str.ofString "keep") ∧ (Str.ofString "rows" ≠ Str.ofString "pick") ∧ (Str.ofString "rows" ≠ Str.ofString "join") ∧ (Str.ofString "rows" ≠ Str.ofString "both") ∧ (Str.ofString "rows" ≠ Str.ofString "without") ∧ (Str.ofString "rows" ≠ Str.ofString "sure") ∧ (Str.ofString "rows" ≠ Str.ofString "maybe") ∧ (Str.ofString "rows" ≠ Str.ofString "cell") ∧ (Str.ofString "rows" ≠ Str.ofString "eq") ∧ (Str.ofString "rows" ≠ Str.ofString "lt") ∧ (Str.ofString "rows" ≠ Str.ofString "no") ∧ (Str.ofString "rows" ≠ Str.ofString "all") ∧ (Str.ofString "rows" ≠ Str.ofString "any") ∧ (Str.ofString "rows" ≠ Str.ofString "pair") ∧ (Str.ofString "rows" ≠ Str.ofString "missing") ∧ (Str.ofString "rows" ≠ Str.ofString "tables") ∧ (Str.ofString "rows" ≠ Str.ofString "sentence") ∧ (Str.ofString "rows" ≠ Str.ofString "column") ∧ (Str.ofString "rows" ≠ Str.ofString "top") ∧ (Str.ofString "rows" ≠ Str.ofString "many") ∧ (Str.ofString "rows" ≠ Str.ofString "text") ∧ (Str.ofString "rows" ≠ Str.ofString "other") ∧ (Str.ofString "rows" ≠ Str.ofString "met") ∧ (Str.ofString "rows" ≠ Str.ofString "another") := by decide +kernel
@[simp] theorem wa13 : ((Str.ofString "keep" == Str.ofString "gap") = false) ∧ ((Str.ofString "keep" == Str.ofString "col") = false) ∧ ((Str.ofString "keep" == Str.ofString "num") = false) ∧ ((Str.ofString "keep" == Str.ofString "plus") = false) ∧ ((Str.ofString "keep" == Str.ofString "take") = false) ∧ ((Str.ofString "keep" == Str.ofString "is") = false) ∧ ((Str.ofString "keep" == Str.ofString "less") = false) ∧ ((Str.ofString "keep" == Str.ofString "lacks") = false) ∧ ((Str.ofString "keep" == Str.ofString "not") = false) ∧ ((Str.ofString "keep" == Str.ofString "true") = false) ∧ ((Str.ofString "keep" == Str.ofString "and") = false) ∧ ((Str.ofString "keep" == Str.ofString "or") = false) ∧ ((Str.ofString "keep" == Str.ofString "rows") = false) ∧ ((Str.ofString "keep" == Str.ofString "pick") = false) ∧ ((Str.ofString "keep" == Str.ofString "join") = false) ∧ ((Str.ofString "keep" == Str.ofString "both") = false) ∧ ((Str.ofString "keep" == Str.ofString "without") = false) ∧ ((Str.ofString "keep" == Str.ofString "sure") = false) ∧ ((Str.ofString "keep" == Str.ofString "maybe") = false) ∧ ((Str.ofString "keep" == Str.ofString "cell") = false) ∧ ((Str.ofString "keep" == Str.ofString "eq") = false) ∧ ((Str.ofString "keep" == Str.ofString "lt") = false) ∧ ((Str.ofString "keep" == Str.ofString "no") = false) ∧ ((Str.ofString "keep" == Str.ofString "all") = false) ∧ ((Str.ofString "keep" == Str.ofString "any") = false) ∧ ((Str.ofString "keep" == Str.ofString "pair") = false) ∧ ((Str.ofString "keep" == Str.ofString "missing") = false) ∧ ((Str.ofString "keep" == Str.ofString "tables") = false) ∧ ((Str.ofString "keep" == Str.ofString "sentence") = false) ∧ ((Str.ofString "keep" == Str.ofString "column") = false) ∧ ((Str.ofString "keep" == Str.ofString "top") = false) ∧ ((Str.ofString "keep" == Str.ofString "many") = false) ∧ ((Str.ofString "keep" == Str.ofString "text") = false) ∧ ((Str.ofString "keep" == Str.ofString "other") = false) ∧ ((Str.ofString "keep" == Str.ofString "met") = false) ∧ ((Str.ofString "keep" == Str.ofString "another") = false) := by decide +kernel
@[simp] theorem wb13 : (Str.ofString "keep" ≠ Str.ofString "gap") ∧ (Str.ofString "keep" ≠ Str.ofString "col") ∧ (Str.ofString "keep" ≠ Str.ofString "num") ∧ (Str.ofString "keep" ≠ Str.ofString "plus") ∧ (Str.ofString "keep" ≠ Str.ofString "take") ∧ (Str.ofString "keep" ≠ Str.ofString "is") ∧ (Str.ofString "keep" ≠ Str.ofString "less") ∧ (Str.ofString "keep" ≠ Str.ofString "lacks") ∧ (Str.ofString "keep" ≠ Str.ofString "not") ∧ (Str.ofString "keep" ≠ Str.ofString "true") ∧ (Str.ofString "keep" ≠ Str.ofString "and") ∧ (Str.ofString "keep" ≠ Str.ofString "or") ∧ (Str.ofString "keep" ≠ Str.ofString "rows") ∧ (Str.ofString "keep" ≠ Str.ofString "pick") ∧ (Str.ofString "keep" ≠ Str.ofString "join") ∧ (Str.ofString "keep" ≠ Str.ofString "both") ∧ (Str.ofString "keep" ≠ Str.ofString "without") ∧ (Str.ofString "keep" ≠ Str.ofString "sure") ∧ (Str.ofString "keep" ≠ Str.ofString "maybe") ∧ (Str.ofString "keep" ≠ Str.ofString "cell") ∧ (Str.ofString "keep" ≠ Str.ofString "eq") ∧ (Str.ofString "keep" ≠ Str.ofString "lt") ∧ (Str.ofString "keep" ≠ Str.ofString "no") ∧ (Str.ofString "keep" ≠ Str.ofString "all") ∧ (Str.ofString "keep" ≠ Str.ofString "any") ∧ (Str.ofString "keep" ≠ Str.ofString "pair") ∧ (Str.ofString "keep" ≠ Str.ofString "missing") ∧ (Str.ofString "keep" ≠ Str.ofString "tables") ∧ (Str.ofString "keep" ≠ Str.ofString "sentence") ∧ (Str.ofString "keep" ≠ Str.ofString "column") ∧ (Str.ofString "keep" ≠ Str.ofString "top") ∧ (Str.ofString "keep" ≠ Str.ofString "many") ∧ (Str.ofString "keep" ≠ Str.ofString "text") ∧ (Str.ofString "keep" ≠ Str.ofString "other") ∧ (Str.ofString "keep" ≠ Str.ofString "met") ∧ (Str.ofString "keep" ≠ Str.ofString "another") := by decide +kernel
@[simp] theorem wa14 : ((Str.ofString "pick" == Str.ofString "gap") = false) ∧ ((Str.ofString "pick" == Str.ofString "col") = false) ∧ ((Str.ofString "pick" == Str.ofString "num") = false) ∧ ((Str.ofString "pick" == Str.ofString "plus") = false) ∧ ((Str.ofString "pick" == Str.ofString "take") = false) ∧ ((Str.ofString "pick" == Str.ofString "is") = false) ∧ ((Str.ofString "pick" == Str.ofString "less") = false) ∧ ((Str.ofString "pick" == Str.ofString "lacks") = false) ∧ ((Str.ofString "pick" == Str.ofString "not") = false) ∧ ((Str.ofString "pick" == Str.ofString "true") = false) ∧ ((Str.ofString "pick" == Str.ofString "and") = false) ∧ ((Str.ofString "pick" == Str.ofString "or") = false) ∧ ((Str.ofString "pick" == Str.ofString "rows") = false) ∧ ((Str.ofString "pick" == Str.ofString "keep") = false) ∧ ((Str.ofString "pick" == Str.ofString "join") = false) ∧ ((Str.ofString "pick" == Str.ofString "both") = false) ∧ ((Str.ofString "pick" == Str.ofString "without") = false) ∧ ((Str.ofString "pick" == Str.ofString "sure") = false) ∧ ((Str.ofString "pick" == Str.ofString "maybe") = false) ∧ ((Str.ofString "pick" == Str.ofString "cell") = false) ∧ ((Str.ofString "pick" == Str.ofString "eq") = false) ∧ ((Str.ofString "pick" == Str.ofString "lt") = false) ∧ ((Str.ofString "pick" == Str.ofString "no") = false) ∧ ((Str.ofString "pick" == Str.ofString "all") = false) ∧ ((Str.ofString "pick" == Str.ofString "any") = false) ∧ ((Str.ofString "pick" == Str.ofString "pair") = false) ∧ ((Str.ofString "pick" == Str.ofString "missing") = false) ∧ ((Str.ofString "pick" == Str.ofString "tables") = false) ∧ ((Str.ofString "pick" == Str.ofString "sentence") = false) ∧ ((Str.ofString "pick" == Str.ofString "column") = false) ∧ ((Str.ofString "pick" == Str.ofString "top") = false) ∧ ((Str.ofString "pick" == Str.ofString "many") = false) ∧ ((Str.ofString "pick" == Str.ofString "text") = false) ∧ ((Str.ofString "pick" == Str.ofString "other") = false) ∧ ((Str.ofString "pick" == Str.ofString "met") = false) ∧ ((Str.ofString "pick" == Str.ofString "another") = false) := by decide +kernel
@[simp] theorem wb14 : (Str.ofString "pick" ≠ Str.ofString "gap") ∧ (Str.ofString "pick" ≠ Str.ofString "col") ∧ (Str.ofString "pick" ≠ Str.ofString "num") ∧ (Str.ofString "pick" ≠ Str.ofString "plus") ∧ (Str.ofString "pick" ≠ Str.ofString "take") ∧ (Str.ofString "pick" ≠ Str.ofString "is") ∧ (Str.ofString "pick" ≠ Str.ofString "less") ∧ (Str.ofString "pick" ≠ Str.ofString "lacks") ∧ (Str.ofString "pick" ≠ Str.ofString "not") ∧ (Str.ofString "pick" ≠ Str.ofString "true") ∧ (Str.ofString "pick" ≠ Str.ofString "and") ∧ (Str.ofString "pick" ≠ Str.ofString "or") ∧ (Str.ofString "pick" ≠ Str.ofString "rows") ∧ (Str.ofString "pick" ≠ Str.ofString "keep") ∧ (Str.ofString "pick" ≠ Str.ofString "join") ∧ (Str.ofString "pick" ≠ Str.ofString "both") ∧ (Str.ofString "pick" ≠ Str.ofString "without") ∧ (Str.ofString "pick" ≠ Str.ofString "sure") ∧ (Str.ofString "pick" ≠ Str.ofString "maybe") ∧ (Str.ofString "pick" ≠ Str.ofString "cell") ∧ (Str.ofString "pick" ≠ Str.ofString "eq") ∧ (Str.ofString "pick" ≠ Str.ofString "lt") ∧ (Str.ofString "pick" ≠ Str.ofString "no") ∧ (Str.ofString "pick" ≠ Str.ofString "all") ∧ (Str.ofString "pick" ≠ Str.ofString "any") ∧ (Str.ofString "pick" ≠ Str.ofString "pair") ∧ (Str.ofString "pick" ≠ Str.ofString "missing") ∧ (Str.ofString "pick" ≠ Str.ofString "tables") ∧ (Str.ofString "pick" ≠ Str.ofString "sentence") ∧ (Str.ofString "pick" ≠ Str.ofString "column") ∧ (Str.ofString "pick" ≠ Str.ofString "top") ∧ (Str.ofString "pick" ≠ Str.ofString "many") ∧ (Str.ofString "pick" ≠ Str.ofString "text") ∧ (Str.ofString "pick" ≠ Str.ofString "other") ∧ (Str.ofString "pick" ≠ Str.ofString "met") ∧ (Str.ofString "pick" ≠ Str.ofString "another") := by decide +kernel
@[simp] theorem wa15 : ((Str.ofString "join" == Str.ofString "gap") = false) ∧ ((Str.ofString "join" == Str.ofString "col") = false) ∧ ((Str.ofString "join" == Str.ofString "num") = false) ∧ ((Str.ofString "join" == Str.ofString "plus") = false) ∧ ((Str.ofString "join" == Str.ofString "take") = false) ∧ ((Str.ofString "join" == Str.ofString "is") = false) ∧ ((Str.ofString "join" == Str.ofString "less") = false) ∧ ((Str.ofString "join" == Str.ofString "lacks") = false) ∧ ((Str.ofString "join" == Str.ofString "not") = false) ∧ ((Str.ofString "join" == Str.ofString "true") = false) ∧ ((Str.ofString "join" == Str.ofString "and") = false) ∧ ((Str.ofString "join" == Str.ofString "or") = false) ∧ ((Str.ofString "join" == Str.ofString "rows") = false) ∧ ((Str.ofString "join" == Str.ofString "keep") = false) ∧ ((Str.ofString "join" == Str.ofString "pick") = false) ∧ ((Str.ofString "join" == Str.ofString "both") = false) ∧ ((Str.ofString "join" == Str.ofString "without") = false) ∧ ((Str.ofString "join" == Str.ofString "sure") = false) ∧ ((Str.ofString "join" == Str.ofString "maybe") = false) ∧ ((Str.ofString "join" == Str.ofString "cell") = false) ∧ ((Str.ofString "join" == Str.ofString "eq") = false) ∧ ((Str.ofString "join" == Str.ofString "lt") = false) ∧ ((Str.ofString "join" == Str.ofString "no") = false) ∧ ((Str.ofString "join" == Str.ofString "all") = false) ∧ ((Str.ofString "join" == Str.ofString "any") = false) ∧ ((Str.ofString "join" == Str.ofString "pair") = false) ∧ ((Str.ofString "join" == Str.ofString "missing") = false) ∧ ((Str.ofString "join" == Str.ofString "tables") = false) ∧ ((Str.ofString "join" == Str.ofString "sentence") = false) ∧ ((Str.ofString "join" == Str.ofString "column") = false) ∧ ((Str.ofString "join" == Str.ofString "top") = false) ∧ ((Str.ofString "join" == Str.ofString "many") = false) ∧ ((Str.ofString "join" == Str.ofString "text") = false) ∧ ((Str.ofString "join" == Str.ofString "other") = false) ∧ ((Str.ofString "join" == Str.ofString "met") = false) ∧ ((Str.ofString "join" == Str.ofString "another") = false) := by decide +kernel
@[simp] theorem wb15 : (Str.ofString "join" ≠ Str.ofString "gap") ∧ (Str.ofString "join" ≠ Str.ofString "col") ∧ (Str.ofString "join" ≠ Str.ofString "num") ∧ (Str.ofString "join" ≠ Str.ofString "plus") ∧ (Str.ofString "join" ≠ Str.ofString "take") ∧ (Str.ofString "join" ≠ Str.ofString "is") ∧ (Str.ofString "join" ≠ Str.ofString "less") ∧ (Str.ofString "join" ≠ Str.ofString "lacks") ∧ (Str.ofString "join" ≠ Str.ofString "not") ∧ (Str.ofString "join" ≠ Str.ofString "true") ∧ (Str.ofString "join" ≠ Str.ofString "and") ∧ (Str.ofString "join" ≠ Str.ofString "or") ∧ (Str.ofString "join" ≠ Str.ofString "rows") ∧ (Str.ofString "join" ≠ Str.ofString "keep") ∧ (Str.ofString "join" ≠ Str.ofString "pick") ∧ (Str.ofString "join" ≠ Str.ofString "both") ∧ (Str.ofString "join" ≠ Str.ofString "without") ∧ (Str.ofString "join" ≠ Str.ofString "sure") ∧ (Str.ofString "join" ≠ Str.ofString "maybe") ∧ (Str.ofString "join" ≠ Str.ofString "cell") ∧ (Str.ofString "join" ≠ Str.ofString "eq") ∧ (Str.ofString "join" ≠ Str.ofString "lt") ∧ (Str.ofString "join" ≠ Str.ofString "no") ∧ (Str.ofString "join" ≠ Str.ofString "all") ∧ (Str.ofString "join" ≠ Str.ofString "any") ∧ (Str.ofString "join" ≠ Str.ofString "pair") ∧ (Str.ofString "join" ≠ Str.ofString "missing") ∧ (Str.ofString "join" ≠ Str.ofString "tables") ∧ (Str.ofString "join" ≠ Str.ofString "sentence") ∧ (Str.ofString "join" ≠ Str.ofString "column") ∧ (Str.ofString "join" ≠ Str.ofString "top") ∧ (Str.ofString "join" ≠ Str.ofString "many") ∧ (Str.ofString "join" ≠ Str.ofString "text") ∧ (Str.ofString "join" ≠ Str.ofString "other") ∧ (Str.ofString "join" ≠ Str.ofString "met") ∧ (Str.ofString "join" ≠ Str.ofString "another") := by decide +kernel
@[simp] theorem wa16 : ((Str.ofString "both" == Str.ofString "gap") = false) ∧ ((Str.ofString "both" == Str.ofString "col") = false) ∧ ((Str.ofString "both" == Str.ofString "num") = false) ∧ ((Str.ofString "both" == Str.ofString "plus") = false) ∧ ((Str.ofString "both" == Str.ofString "take") = false) ∧ ((Str.ofString "both" == Str.ofString "is") = false) ∧ ((Str.ofString "both" == Str.ofString "less") = false) ∧ ((Str.ofString "both" == Str.ofString "lacks") = false) ∧ ((Str.ofString "both" == Str.ofString "not") = false) ∧ ((Str.ofString "both" == Str.ofString "true") = false) ∧ ((Str.ofString "both" == Str.ofString "and") = false) ∧ ((Str.ofString "both" == Str.ofString "or") = false) ∧ ((Str.ofString "both" == Str.ofString "rows") = false) ∧ ((Str.ofString "both" == Str.ofString "keep") = false) ∧ ((Str.ofString "both" == Str.ofString "pick") = false) ∧ ((Str.ofString "both" == Str.ofString "join") = false) ∧ ((Str.ofString "both" == Str.ofString "without") = false) ∧ ((Str.ofString "both" == Str.ofString "sure") = false) ∧ ((Str.ofString "both" == Str.ofString "maybe") = false) ∧ ((Str.ofString "both" == Str.ofString "cell") = false) ∧ ((Str.ofString "both" == Str.ofString "eq") = false) ∧ ((Str.ofString "both" == Str.ofString "lt") = false) ∧ ((Str.ofString "both" == Str.ofString "no") = false) ∧ ((Str.ofString "both" == Str.ofString "all") = false) ∧ ((Str.ofString "both" == Str.ofString "any") = false) ∧ ((Str.ofString "both" == Str.ofString "pair") = false) ∧ ((Str.ofString "both" == Str.ofString "missing") = false) ∧ ((Str.ofString "both" == Str.ofString "tables") = false) ∧ ((Str.ofString "both" == Str.ofString "sentence") = false) ∧ ((Str.ofString "both" == Str.ofString "column") = false) ∧ ((Str.ofString "both" == Str.ofString "top") = false) ∧ ((Str.ofString "both" == Str.ofString "many") = false) ∧ ((Str.ofString "both" == Str.ofString "text") = false) ∧ ((Str.ofString "both" == Str.ofString "other") = false) ∧ ((Str.ofString "both" == Str.ofString "met") = false) ∧ ((Str.ofString "both" == Str.ofString "another") = false) := by decide +kernel
@[simp] theorem wb16 : (Str.ofString "both" ≠ Str.ofString "gap") ∧ (Str.ofString "both" ≠ Str.ofString "col") ∧ (Str.ofString "both" ≠ Str.ofString "num") ∧ (Str.ofString "both" ≠ Str.ofString "plus") ∧ (Str.ofString "both" ≠ Str.ofString "take") ∧ (Str.ofString "both" ≠ Str.ofString "is") ∧ (Str.ofString "both" ≠ Str.ofString "less") ∧ (Str.ofString "both" ≠ Str.ofString "lacks") ∧ (Str.ofString "both" ≠ Str.ofString "not") ∧ (Str.ofString "both" ≠ Str.ofString "true") ∧ (Str.ofString "both" ≠ Str.ofString "and") ∧ (Str.ofString "both" ≠ Str.ofString "or") ∧ (Str.ofString "both" ≠ Str.ofString "rows") ∧ (Str.ofString "both" ≠ Str.ofString "keep") ∧ (Str.ofString "both" ≠ Str.ofString "pick") ∧ (Str.ofString "both" ≠ Str.ofString "join") ∧ (Str.ofString "both" ≠ Str.ofString "without") ∧ (Str.ofString "both" ≠ Str.ofString "sure") ∧ (Str.ofString "both" ≠ Str.ofString "maybe") ∧ (Str.ofString "both" ≠ Str.ofString "cell") ∧ (Str.ofString "both" ≠ Str.ofString "eq") ∧ (Str.ofString "both" ≠ Str.ofString "lt") ∧ (Str.ofString "both" ≠ Str.ofString "no") ∧ (Str.ofString "both" ≠ Str.ofString "all") ∧ (Str.ofString "both" ≠ Str.ofString "any") ∧ (Str.ofString "both" ≠ Str.ofString "pair") ∧ (Str.ofString "both" ≠ Str.ofString "missing") ∧ (Str.ofString "both" ≠ Str.ofString "tables") ∧ (Str.ofString "both" ≠ Str.ofString "sentence") ∧ (Str.ofString "both" ≠ Str.ofString "column") ∧ (Str.ofString "both" ≠ Str.ofString "top") ∧ (Str.ofString "both" ≠ Str.ofString "many") ∧ (Str.ofString "both" ≠ Str.ofString "text") ∧ (Str.ofString "both" ≠ Str.ofString "other") ∧ (Str.ofString "both" ≠ Str.ofString "met") ∧ (Str.ofString "both" ≠ Str.ofString "another") := by decide +kernel
@[simp] theorem wa17 : ((Str.ofString "without" == Str.ofString "gap") = false) ∧ ((Str.ofString "without" == Str.ofString "col") = false) ∧ ((Str.ofString "without" == Str.ofString "num") = false) ∧ ((Str.ofString "without" == Str.ofString "plus") = false) ∧ ((Str.ofString "without" == Str.ofString "take") = false) ∧ ((Str.ofString "without" == Str.ofString "is") = false) ∧ ((Str.ofString "without" == Str.ofString "less") = false) ∧ ((Str.ofString "without" == Str.ofString "lacks") = false) ∧ ((Str.ofString "without" == Str.ofString "not") = false) ∧ ((Str.ofString "without" == Str.ofString "true") = false) ∧ ((Str.ofString "without" == Str.ofString "and") = false) ∧ ((Str.ofString "without" == Str.ofString "or") = false) ∧ ((Str.ofString "without" == Str.ofString "rows") = false) ∧ ((Str.ofString "without" == Str.ofString "keep") = false) ∧ ((Str.ofString "without" == Str.ofString "pick") = false) ∧ ((Str.ofString "without" == Str.ofString "join") = false) ∧ ((Str.ofString "without" == Str.ofString "both") = false) ∧ ((Str.ofString "without" == Str.ofString "sure") = false) ∧ ((Str.ofString "without" == Str.ofString "maybe") = false) ∧ ((Str.ofString "without" == Str.ofString "cell") = false) ∧ ((Str.ofString "without" == Str.ofString "eq") = false) ∧ ((Str.ofString "without" == Str.ofString "lt") = false) ∧ ((Str.ofString "without" == Str.ofString "no") = false) ∧ ((Str.ofString "without" == Str.ofString "all") = false) ∧ ((Str.ofString "without" == Str.ofString "any") = false) ∧ ((Str.ofString "without" == Str.ofString "pair") = false) ∧ ((Str.ofString "without" == Str.ofString "missing") = false) ∧ ((Str.ofString "without" == Str.ofString "tables") = false) ∧ ((Str.ofString "without" == Str.ofString "sentence") = false) ∧ ((Str.ofString "without" == Str.ofString "column") = false) ∧ ((Str.ofString "without" == Str.ofString "top") = false) ∧ ((Str.ofString "without" == Str.ofString "many") = false) ∧ ((Str.ofString "without" == Str.ofString "text") = false) ∧ ((Str.ofString "without" == Str.ofString "other") = false) ∧ ((Str.ofString "without" == Str.ofString "met") = false) ∧ ((Str.ofString "without" == Str.ofString "another") = false) := by decide +kernel
@[simp] theorem wb17 : (Str.ofString "without" ≠ Str.ofString "gap") ∧ (Str.ofString "without" ≠ Str.ofString "col") ∧ (Str.ofString "without" ≠ Str.ofString "num") ∧ (Str.ofString "without" ≠ Str.ofString "plus") ∧ (Str.ofString "without" ≠ Str.ofString "take") ∧ (Str.ofString "without" ≠ Str.ofString "is") ∧ (Str.ofString "without" ≠ Str.ofString "less") ∧ (Str.ofString "without" ≠ Str.ofString "lacks") ∧ (Str.ofString "without" ≠ Str.ofString "not") ∧ (Str.ofString "without" ≠ Str.ofString "true") ∧ (Str.ofString "without" ≠ Str.ofString "and") ∧ (Str.ofString "without" ≠ Str.ofString "or") ∧ (Str.ofString "without" ≠ Str.ofString "rows") ∧ (Str.ofString "without" ≠ Str.ofString "keep") ∧ (Str.ofString "without" ≠ Str.ofString "pick") ∧ (Str.ofString "without" ≠ Str.ofString "join") ∧ (Str.ofString "without" ≠ Str.ofString "both") ∧ (Str.ofString "without" ≠ Str.ofString "sure") ∧ (Str.ofString "without" ≠ Str.ofString "maybe") ∧ (Str.ofString "without" ≠ Str.ofString "cell") ∧ (Str.ofString "without" ≠ Str.ofString "eq") ∧ (Str.ofString "without" ≠ Str.ofString "lt") ∧ (Str.ofString "without" ≠ Str.ofString "no") ∧ (Str.ofString "without" ≠ Str.ofString "all") ∧ (Str.ofString "without" ≠ Str.ofString "any") ∧ (Str.ofString "without" ≠ Str.ofString "pair") ∧ (Str.ofString "without" ≠ Str.ofString "missing") ∧ (Str.ofString "without" ≠ Str.ofString "tables") ∧ (Str.ofString "without" ≠ Str.ofString "sentence") ∧ (Str.ofString "without" ≠ Str.ofString "column") ∧ (Str.ofString "without" ≠ Str.ofString "top") ∧ (Str.ofString "without" ≠ Str.ofString "many") ∧ (Str.ofString "without" ≠ Str.ofString "text") ∧ (Str.ofString "without" ≠ Str.ofString "other") ∧ (Str.ofString "without" ≠ Str.ofString "met") ∧ (Str.ofString "without" ≠ Str.ofString "another") := by decide +kernel
@[simp] theorem wa18 : ((Str.ofString "sure" == Str.ofString "gap") = false) ∧ ((Str.ofString "sure" == Str.ofString "col") = false) ∧ ((Str.ofString "sure" == Str.ofString "num") = false) ∧ ((Str.ofString "sure" == Str.ofString "plus") = false) ∧ ((Str.ofString "sure" == Str.ofString "take") = false) ∧ ((Str.ofString "sure" == Str.ofString "is") = false) ∧ ((Str.ofString "sure" == Str.ofString "less") = false) ∧ ((Str.ofString "sure" == Str.ofString "lacks") = false) ∧ ((Str.ofString "sure" == Str.ofString "not") = false) ∧ ((Str.ofString "sure" == Str.ofString "true") = false) ∧ ((Str.ofString "sure" == Str.ofString "and") = false) ∧ ((Str.ofString "sure" == Str.ofString "or") = false) ∧ ((Str.ofString "sure" == Str.ofString "rows") = false) ∧ ((Str.ofString "sure" == Str.ofString "keep") = false) ∧ ((Str.ofString "sure" == Str.ofString "pick") = false) ∧ ((Str.ofString "sure" == Str.ofString "join") = false) ∧ ((Str.ofString "sure" == Str.ofString "both") = false) ∧ ((Str.ofString "sure" == Str.ofString "without") = false) ∧ ((Str.ofString "sure" == Str.ofString "maybe") = false) ∧ ((Str.ofString "sure" == Str.ofString "cell") = false) ∧ ((Str.ofString "sure" == Str.ofString "eq") = false) ∧ ((Str.ofString "sure" == Str.ofString "lt") = false) ∧ ((Str.ofString "sure" == Str.ofString "no") = false) ∧ ((Str.ofString "sure" == Str.ofString "all") = false) ∧ ((Str.ofString "sure" == Str.ofString "any") = false) ∧ ((Str.ofString "sure" == Str.ofString "pair") = false) ∧ ((Str.ofString "sure" == Str.ofString "missing") = false) ∧ ((Str.ofString "sure" == Str.ofString "tables") = false) ∧ ((Str.ofString "sure" == Str.ofString "sentence") = false) ∧ ((Str.ofString "sure" == Str.ofString "column") = false) ∧ ((Str.ofString "sure" == Str.ofString "top") = false) ∧ ((Str.ofString "sure" == Str.ofString "many") = false) ∧ ((Str.ofString "sure" == Str.ofString "text") = false) ∧ ((Str.ofString "sure" == Str.ofString "other") = false) ∧ ((Str.ofString "sure" == Str.ofString "met") = false) ∧ ((Str.ofString "sure" == Str.ofString "another") = false) := by decide +kernel
@[simp] theorem wb18 : (Str.ofString "sure" ≠ Str.ofString "gap") ∧ (Str.ofString "sure" ≠ Str.ofString "col") ∧ (Str.ofString "sure" ≠ Str.ofString "num") ∧ (Str.ofString "sure" ≠ Str.ofString "plus") ∧ (Str.ofString "sure" ≠ Str.ofString "take") ∧ (Str.ofString "sure" ≠ Str.ofString "is") ∧ (Str.ofString "sure" ≠ Str.ofString "less") ∧ (Str.ofString "sure" ≠ Str.ofString "lacks") ∧ (Str.ofString "sure" ≠ Str.ofString "not") ∧ (Str.ofString "sure" ≠ Str.ofString "true") ∧ (Str.ofString "sure" ≠ Str.ofString "and") ∧ (Str.ofString "sure" ≠ Str.ofString "or") ∧ (Str.ofString "sure" ≠ Str.ofString "rows") ∧ (Str.ofString "sure" ≠ Str.ofString "keep") ∧ (Str.ofString "sure" ≠ Str.ofString "pick") ∧ (Str.ofString "sure" ≠ Str.ofString "join") ∧ (Str.ofString "sure" ≠ Str.ofString "both") ∧ (Str.ofString "sure" ≠ Str.ofString "without") ∧ (Str.ofString "sure" ≠ Str.ofString "maybe") ∧ (Str.ofString "sure" ≠ Str.ofString "cell") ∧ (Str.ofString "sure" ≠ Str.ofString "eq") ∧ (Str.ofString "sure" ≠ Str.ofString "lt") ∧ (Str.ofString "sure" ≠ Str.ofString "no") ∧ (Str.ofString "sure" ≠ Str.ofString "all") ∧ (Str.ofString "sure" ≠ Str.ofString "any") ∧ (Str.ofString "sure" ≠ Str.ofString "pair") ∧ (Str.ofString "sure" ≠ Str.ofString "missing") ∧ (Str.ofString "sure" ≠ Str.ofString "tables") ∧ (Str.ofString "sure" ≠ Str.ofString "sentence") ∧ (Str.ofString "sure" ≠ Str.ofString "column") ∧ (Str.ofString "sure" ≠ Str.ofString "top") ∧ (Str.ofString "sure" ≠ Str.ofString "many") ∧ (Str.ofString "sure" ≠ Str.ofString "text") ∧ (Str.ofString "sure" ≠ Str.ofString "other") ∧ (Str.ofString "sure" ≠ Str.ofString "met") ∧ (Str.ofString "sure" ≠ Str.ofString "another") := by decide +kernel
@[simp] theorem wa19 : ((Str.ofString "maybe" == Str.ofString "gap") = false) ∧ ((Str.ofString "maybe" == Str.ofString "col") = false) ∧ ((Str.ofString "maybe" == Str.ofString "num") = false) ∧ ((Str.ofString "maybe" == Str.ofString "plus") = false) ∧ ((Str.ofString "maybe" == Str.ofString "take") = false) ∧ ((Str.ofString "maybe" == Str.ofString "is") = false) ∧ ((Str.ofString "maybe" == Str.ofString "less") = false) ∧ ((Str.ofString "maybe" == Str.ofString "lacks") = false) ∧ ((Str.ofString "maybe" == Str.ofString "not") = false) ∧ ((Str.ofString "maybe" == Str.ofString "true") = false) ∧ ((Str.ofString "maybe" == Str.ofString "and") = false) ∧ ((Str.ofString "maybe" == Str.ofString "or") = false) ∧ ((Str.ofString "maybe" == Str.ofString "rows") = false) ∧ ((Str.ofString "maybe" == Str.ofString "keep") = false) ∧ ((Str.ofString "maybe" == Str.ofString "pick") = false) ∧ ((Str.ofString "maybe" == Str.ofString "join") = false) ∧ ((Str.ofString "maybe" == Str.ofString "both") = false) ∧ ((Str.ofString "maybe" == Str.ofString "without") = false) ∧ ((Str.ofString "maybe" == Str.ofString "sure") = false) ∧ ((Str.ofString "maybe" == Str.ofString "cell") = false) ∧ ((Str.ofString "maybe" == Str.ofString "eq") = false) ∧ ((Str.ofString "maybe" == Str.ofString "lt") = false) ∧ ((Str.ofString "maybe" == Str.ofString "no") = false) ∧ ((Str.ofString "maybe" == Str.ofString "all") = false) ∧ ((Str.ofString "maybe" == Str.ofString "any") = false) ∧ ((Str.ofString "maybe" == Str.ofString "pair") = false) ∧ ((Str.ofString "maybe" == Str.ofString "missing") = false) ∧ ((Str.ofString "maybe" == Str.ofString "tables") = false) ∧ ((Str.ofString "maybe" == Str.ofString "sentence") = false) ∧ ((Str.ofString "maybe" == Str.ofString "column") = false) ∧ ((Str.ofString "maybe" == Str.ofString "top") = false) ∧ ((Str.ofString "maybe" == Str.ofString "many") = false) ∧ ((Str.ofString "maybe" == Str.ofString "text") = false) ∧ ((Str.ofString "maybe" == Str.ofString "other") = false) ∧ ((Str.ofString "maybe" == Str.ofString "met") = false) ∧ ((Str.ofString "maybe" == Str.ofString "another") = false) := by decide +kernel
@[simp] theorem wb19 : (Str.ofString "maybe" ≠ Str.ofString "gap") ∧ (Str.ofString "maybe" ≠ Str.ofString "col") ∧ (Str.ofString "maybe" ≠ Str.ofString "num") ∧ (Str.ofString "maybe" ≠ Str.ofString "plus") ∧ (Str.ofString "maybe" ≠ Str.ofString "take") ∧ (Str.ofString "maybe" ≠ Str.ofString "is") ∧ (Str.ofString "maybe" ≠ Str.ofString "less") ∧ (Str.ofString "maybe" ≠ Str.ofString "lacks") ∧ (Str.ofString "maybe" ≠ Str.ofString "not") ∧ (Str.ofString "maybe" ≠ Str.ofString "true") ∧ (Str.ofString "maybe" ≠ Str.ofString "and") ∧ (Str.ofString "maybe" ≠ Str.ofString "or") ∧ (Str.ofString "maybe" ≠ Str.ofString "rows") ∧ (Str.ofString "maybe" ≠ Str.ofString "keep") ∧ (Str.ofString "maybe" ≠ Str.ofString "pick") ∧ (Str.ofString "maybe" ≠ Str.ofString "join") ∧ (Str.ofString "maybe" ≠ Str.ofString "both") ∧ (Str.ofString "maybe" ≠ Str.ofString "without") ∧ (Str.ofString "maybe" ≠ Str.ofString "sure") ∧ (Str.ofString "maybe" ≠ Str.ofString "cell") ∧ (Str.ofString "maybe" ≠ Str.ofString "eq") ∧ (Str.ofString "maybe" ≠ Str.ofString "lt") ∧ (Str.ofString "maybe" ≠ Str.ofString "no") ∧ (Str.ofString "maybe" ≠ Str.ofString "all") ∧ (Str.ofString "maybe" ≠ Str.ofString "any") ∧ (Str.ofString "maybe" ≠ Str.ofString "pair") ∧ (Str.ofString "maybe" ≠ Str.ofString "missing") ∧ (Str.ofString "maybe" ≠ Str.ofString "tables") ∧ (Str.ofString "maybe" ≠ Str.ofString "sentence") ∧ (Str.ofString "maybe" ≠ Str.ofString "column") ∧ (Str.ofString "maybe" ≠ Str.ofString "top") ∧ (Str.ofString "maybe" ≠ Str.ofString "many") ∧ (Str.ofString "maybe" ≠ Str.ofString "text") ∧ (Str.ofString "maybe" ≠ Str.ofString "other") ∧ (Str.ofString "maybe" ≠ Str.ofString "met") ∧ (Str.ofString "maybe" ≠ Str.ofString "another") := by decide +kernel
@[simp] theorem wa20 : ((Str.ofString "cell" == Str.ofString "gap") = false) ∧ ((Str.ofString "cell" == Str.ofString "col") = false) ∧ ((Str.ofString "cell" == Str.ofString "num") = false) ∧ ((Str.ofString "cell" == Str.ofString "plus") = false) ∧ ((Str.ofString "cell" == Str.ofString "take") = false) ∧ ((Str.ofString "cell" == Str.ofString "is") = false) ∧ ((Str.ofString "cell" == Str.ofString "less") = false) ∧ ((Str.ofString "cell" == Str.ofString "lacks") = false) ∧ ((Str.ofString "cell" == Str.ofString "not") = false) ∧ ((Str.ofString "cell" == Str.ofString "true") = false) ∧ ((Str.ofString "cell" == Str.ofString "and") = false) ∧ ((Str.ofString "cell" == Str.ofString "or") = false) ∧ ((Str.ofString "cell" == Str.ofString "rows") = false) ∧ ((Str.ofString "cell" == Str.ofString "keep") = false) ∧ ((Str.ofString "cell" == Str.ofString "pick") = false) ∧ ((Str.ofString "cell" == Str.ofString "join") = false) ∧ ((Str.ofString "cell" == Str.ofString "both") = false) ∧ ((Str.ofString "cell" == Str.ofString "without") = false) ∧ ((Str.ofString "cell" == Str.ofString "sure") = false) ∧ ((Str.ofString "cell" == Str.ofString "maybe") = false) ∧ ((Str.ofString "cell" == Str.ofString "eq") = false) ∧ ((Str.ofString "cell" == Str.ofString "lt") = false) ∧ ((Str.ofString "cell" == Str.ofString "no") = false) ∧ ((Str.ofString "cell" == Str.ofString "all") = false) ∧ ((Str.ofString "cell" == Str.ofString "any") = false) ∧ ((Str.ofString "cell" == Str.ofString "pair") = false) ∧ ((Str.ofString "cell" == Str.ofString "missing") = false) ∧ ((Str.ofString "cell" == Str.ofString "tables") = false) ∧ ((Str.ofString "cell" == Str.ofString "sentence") = false) ∧ ((Str.ofString "cell" == Str.ofString "column") = false) ∧ ((Str.ofString "cell" == Str.ofString "top") = false) ∧ ((Str.ofString "cell" == Str.ofString "many") = false) ∧ ((Str.ofString "cell" == Str.ofString "text") = false) ∧ ((Str.ofString "cell" == Str.ofString "other") = false) ∧ ((Str.ofString "cell" == Str.ofString "met") = false) ∧ ((Str.ofString "cell" == Str.ofString "another") = false) := by decide +kernel
@[simp] theorem wb20 : (Str.ofString "cell" ≠ Str.ofString "gap") ∧ (Str.ofString "cell" ≠ Str.ofString "col") ∧ (Str.ofString "cell" ≠ Str.ofString "num") ∧ (Str.ofString "cell" ≠ Str.ofString "plus") ∧ (Str.ofString "cell" ≠ Str.ofString "take") ∧ (Str.ofString "cell" ≠ Str.ofString "is") ∧ (Str.ofString "cell" ≠ Str.ofString "less") ∧ (Str.ofString "cell" ≠ Str.ofString "lacks") ∧ (Str.ofString "cell" ≠ Str.ofString "not") ∧ (Str.ofString "cell" ≠ Str.ofString "true") ∧ (Str.ofString "cell" ≠ Str.ofString "and") ∧ (Str.ofString "cell" ≠ Str.ofString "or") ∧ (Str.ofString "cell" ≠ Str.ofString "rows") ∧ (Str.ofString "cell" ≠ Str.ofString "keep") ∧ (Str.ofString "cell" ≠ Str.ofString "pick") ∧ (Str.ofString "cell" ≠ Str.ofString "join") ∧ (Str.ofString "cell" ≠ Str.ofString "both") ∧ (Str.ofString "cell" ≠ Str.ofString "without") ∧ (Str.ofString "cell" ≠ Str.ofString "sure") ∧ (Str.ofString "cell" ≠ Str.ofString "maybe") ∧ (Str.ofString "cell" ≠ Str.ofString "eq") ∧ (Str.ofString "cell" ≠ Str.ofString "lt") ∧ (Str.ofString "cell" ≠ Str.ofString "no") ∧ (Str.ofString "cell" ≠ Str.ofString "all") ∧ (Str.ofString "cell" ≠ Str.ofString "any") ∧ (Str.ofString "cell" ≠ Str.ofString "pair") ∧ (Str.ofString "cell" ≠ Str.ofString "missing") ∧ (Str.ofString "cell" ≠ Str.ofString "tables") ∧ (Str.ofString "cell" ≠ Str.ofString "sentence") ∧ (Str.ofString "cell" ≠ Str.ofString "column") ∧ (Str.ofString "cell" ≠ Str.ofString "top") ∧ (Str.ofString "cell" ≠ Str.ofString "many") ∧ (Str.ofString "cell" ≠ Str.ofString "text") ∧ (Str.ofString "cell" ≠ Str.ofString "other") ∧ (Str.ofString "cell" ≠ Str.ofString "met") ∧ (Str.ofString "cell" ≠ Str.ofString "another") := by decide +kernel
@[simp] theorem wa21 : ((Str.ofString "eq" == Str.ofString "gap") = false) ∧ ((Str.ofString "eq" == Str.ofString "col") = false) ∧ ((Str.ofString "eq" == Str.ofString "num") = false) ∧ ((Str.ofString "eq" == Str.ofString "plus") = false) ∧ ((Str.ofString "eq" == Str.ofString "take") = false) ∧ ((Str.ofString "eq" == Str.ofString "is") = false) ∧ ((Str.ofString "eq" == Str.ofString "less") = false) ∧ ((Str.ofString "eq" == Str.ofString "lacks") = false) ∧ ((Str.ofString "eq" == Str.ofString "not") = false) ∧ ((Str.ofString "eq" == Str.ofString "true") = false) ∧ ((Str.ofString "eq" == Str.ofString "and") = false) ∧ ((Str.ofString "eq" == Str.ofString "or") = false) ∧ ((Str.ofString "eq" == Str.ofString "rows") = false) ∧ ((Str.ofString "eq" == Str.ofString "keep") = false) ∧ ((Str.ofString "eq" == Str.ofString "pick") = false) ∧ ((Str.ofString "eq" == Str.ofString "join") = false) ∧ ((Str.ofString "eq" == Str.ofString "both") = false) ∧ ((Str.ofString "eq" == Str.ofString "without") = false) ∧ ((Str.ofString "eq" == Str.ofString "sure") = false) ∧ ((Str.ofString "eq" == Str.ofString "maybe") = false) ∧ ((Str.ofString "eq" == Str.ofString "cell") = false) ∧ ((Str.ofString "eq" == Str.ofString "lt") = false) ∧ ((Str.ofString "eq" == Str.ofString "no") = false) ∧ ((Str.ofString "eq" == Str.ofString "all") = false) ∧ ((Str.ofString "eq" == Str.ofString "any") = false) ∧ ((Str.ofString "eq" == Str.ofString "pair") = false) ∧ ((Str.ofString "eq" == Str.ofString "missing") = false) ∧ ((Str.ofString "eq" == Str.ofString "tables") = false) ∧ ((Str.ofString "eq" == Str.ofString "sentence") = false) ∧ ((Str.ofString "eq" == Str.ofString "column") = false) ∧ ((Str.ofString "eq" == Str.ofString "top") = false) ∧ ((Str.ofString "eq" == Str.ofString "many") = false) ∧ ((Str.ofString "eq" == Str.ofString "text") = false) ∧ ((Str.ofString "eq" == Str.ofString "other") = false) ∧ ((Str.ofString "eq" == Str.ofString "met") = false) ∧ ((Str.ofString "eq" == Str.ofString "another") = false) := by decide +kernel
@[simp] theorem wb21 : (Str.ofString "eq" ≠ Str.ofString "gap") ∧ (Str.ofString "eq" ≠ Str.ofString "col") ∧ (Str.ofString "eq" ≠ Str.ofString "num") ∧ (Str.ofString "eq" ≠ Str.ofString "plus") ∧ (Str.ofString "eq" ≠ Str.ofString "take") ∧ (Str.ofString "eq" ≠ Str.ofString "is") ∧ (Str.ofString "eq" ≠ Str.ofString "less") ∧ (Str.ofString "eq" ≠ Str.ofString "lacks") ∧ (Str.ofString "eq" ≠ Str.ofString "not") ∧ (Str.ofString "eq" ≠ Str.ofString "true") ∧ (Str.ofString "eq" ≠ Str.ofString "and") ∧ (Str.ofString "eq" ≠ Str.ofString "or") ∧ (Str.ofString "eq" ≠ Str.ofString "rows") ∧ (Str.ofString "eq" ≠ Str.ofString "keep") ∧ (Str.ofString "eq" ≠ Str.ofString "pick") ∧ (Str.ofString "eq" ≠ Str.ofString "join") ∧ (Str.ofString "eq" ≠ Str.ofString "both") ∧ (Str.ofString "eq" ≠ Str.ofString "without") ∧ (Str.ofString "eq" ≠ Str.ofString "sure") ∧ (Str.ofString "eq" ≠ Str.ofString "maybe") ∧ (Str.ofString "eq" ≠ Str.ofString "cell") ∧ (Str.ofString "eq" ≠ Str.ofString "lt") ∧ (Str.ofString "eq" ≠ Str.ofString "no") ∧ (Str.ofString "eq" ≠ Str.ofString "all") ∧ (Str.ofString "eq" ≠ Str.ofString "any") ∧ (Str.ofString "eq" ≠ Str.ofString "pair") ∧ (Str.ofString "eq" ≠ Str.ofString "missing") ∧ (Str.ofString "eq" ≠ Str.ofString "tables") ∧ (Str.ofString "eq" ≠ Str.ofString "sentence") ∧ (Str.ofString "eq" ≠ Str.ofString "column") ∧ (Str.ofString "eq" ≠ Str.ofString "top") ∧ (Str.ofString "eq" ≠ Str.ofString "many") ∧ (Str.ofString "eq" ≠ Str.ofString "text") ∧ (Str.ofString "eq" ≠ Str.ofString "other") ∧ (Str.ofString "eq" ≠ Str.ofString "met") ∧ (Str.ofString "eq" ≠ Str.ofString "another") := by decide +kernel
@[simp] theorem wa22 : ((Str.ofString "lt" == Str.ofString "gap") = false) ∧ ((Str.ofString "lt" == Str.ofString "col") = false) ∧ ((Str.ofString "lt" == Str.ofString "num") = false) ∧ ((Str.ofString "lt" == Str.ofString "plus") = false) ∧ ((Str.ofString "lt" == Str.ofString "take") = false) ∧ ((Str.ofString "lt" == Str.ofString "is") = false) ∧ ((Str.ofString "lt" == Str.ofString "less") = false) ∧ ((Str.ofString "lt" == Str.ofString "lacks") = false) ∧ ((Str.ofString "lt" == Str.ofString "not") = false) ∧ ((Str.ofString "lt" == Str.ofString "true") = false) ∧ ((Str.ofString "lt" == Str.ofString "and") = false) ∧ ((Str.ofString "lt" == Str.ofString "or") = false) ∧ ((Str.ofString "lt" == Str.ofString "rows") = false) ∧ ((Str.ofString "lt" == Str.ofString "keep") = false) ∧ ((Str.ofString "lt" == Str.ofString "pick") = false) ∧ ((Str.ofString "lt" == Str.ofString "join") = false) ∧ ((Str.ofString "lt" == Str.ofString "both") = false) ∧ ((Str.ofString "lt" == Str.ofString "without") = false) ∧ ((Str.ofString "lt" == Str.ofString "sure") = false) ∧ ((Str.ofString "lt" == Str.ofString "maybe") = false) ∧ ((Str.ofString "lt" == Str.ofString "cell") = false) ∧ ((Str.ofString "lt" == Str.ofString "eq") = false) ∧ ((Str.ofString "lt" == Str.ofString "no") = false) ∧ ((Str.ofString "lt" == Str.ofString "all") = false) ∧ ((Str.ofString "lt" == Str.ofString "any") = false) ∧ ((Str.ofString "lt" == Str.ofString "pair") = false) ∧ ((Str.ofString "lt" == Str.ofString "missing") = false) ∧ ((Str.ofString "lt" == Str.ofString "tables") = false) ∧ ((Str.ofString "lt" == Str.ofString "sentence") = false) ∧ ((Str.ofString "lt" == Str.ofString "column") = false) ∧ ((Str.ofString "lt" == Str.ofString "top") = false) ∧ ((Str.ofString "lt" == Str.ofString "many") = false) ∧ ((Str.ofString "lt" == Str.ofString "text") = false) ∧ ((Str.ofString "lt" == Str.ofString "other") = false) ∧ ((Str.ofString "lt" == Str.ofString "met") = false) ∧ ((Str.ofString "lt" == Str.ofString "another") = false) := by decide +kernel
@[simp] theorem wb22 : (Str.ofString "lt" ≠ Str.ofString "gap") ∧ (Str.ofString "lt" ≠ Str.ofString "col") ∧ (Str.ofString "lt" ≠ Str.ofString "num") ∧ (Str.ofString "lt" ≠ Str.ofString "plus") ∧ (Str.ofString "lt" ≠ Str.ofString "take") ∧ (Str.ofString "lt" ≠ Str.ofString "is") ∧ (Str.ofString "lt" ≠ Str.ofString "less") ∧ (Str.ofString "lt" ≠ Str.ofString "lacks") ∧ (Str.ofString "lt" ≠ Str.ofString "not") ∧ (Str.ofString "lt" ≠ Str.ofString "true") ∧ (Str.ofString "lt" ≠ Str.ofString "and") ∧ (Str.ofString "lt" ≠ Str.ofString "or") ∧ (Str.ofString "lt" ≠ Str.ofString "rows") ∧ (Str.ofString "lt" ≠ Str.ofString "keep") ∧ (Str.ofString "lt" ≠ Str.ofString "pick") ∧ (Str.ofString "lt" ≠ Str.ofString "join") ∧ (Str.ofString "lt" ≠ Str.ofString "both") ∧ (Str.ofString "lt" ≠ Str.ofString "without") ∧ (Str.ofString "lt" ≠ Str.ofString "sure") ∧ (Str.ofString "lt" ≠ Str.ofString "maybe") ∧ (Str.ofString "lt" ≠ Str.ofString "cell") ∧ (Str.ofString "lt" ≠ Str.ofString "eq") ∧ (Str.ofString "lt" ≠ Str.ofString "no") ∧ (Str.ofString "lt" ≠ Str.ofString "all") ∧ (Str.ofString "lt" ≠ Str.ofString "any") ∧ (Str.ofString "lt" ≠ Str.ofString "pair") ∧ (Str.ofString "lt" ≠ Str.ofString "missing") ∧ (Str.ofString "lt" ≠ Str.ofString "tables") ∧ (Str.ofString "lt" ≠ Str.ofString "sentence") ∧ (Str.ofString "lt" ≠ Str.ofString "column") ∧ (Str.ofString "lt" ≠ Str.ofString "top") ∧ (Str.ofString "lt" ≠ Str.ofString "many") ∧ (Str.ofString "lt" ≠ Str.ofString "text") ∧ (Str.ofString "lt" ≠ Str.ofString "other") ∧ (Str.ofString "lt" ≠ Str.ofString "met") ∧ (Str.ofString "lt" ≠ Str.ofString "another") := by decide +kernel
@[simp] theorem wa23 : ((Str.ofString "no" == Str.ofString "gap") = false) ∧ ((Str.ofString "no" == Str.ofString "col") = false) ∧ ((Str.ofString "no" == Str.ofString "num") = false) ∧ ((Str.ofString "no" == Str.ofString "plus") = false) ∧ ((Str.ofString "no" == Str.ofString "take") = false) ∧ ((Str.ofString "no" == Str.ofString "is") = false) ∧ ((Str.ofString "no" == Str.ofString "less") = false) ∧ ((Str.ofString "no" == Str.ofString "lacks") = false) ∧ ((Str.ofString "no" == Str.ofString "not") = false) ∧ ((Str.ofString "no" == Str.ofString "true") = false) ∧ ((Str.ofString "no" == Str.ofString "and") = false) ∧ ((Str.ofString "no" == Str.ofString "or") = false) ∧ ((Str.ofString "no" == Str.ofString "rows") = false) ∧ ((Str.ofString "no" == Str.ofString "keep") = false) ∧ ((Str.ofString "no" == Str.ofString "pick") = false) ∧ ((Str.ofString "no" == Str.ofString "join") = false) ∧ ((Str.ofString "no" == Str.ofString "both") = false) ∧ ((Str.ofString "no" == Str.ofString "without") = false) ∧ ((Str.ofString "no" == Str.ofString "sure") = false) ∧ ((Str.ofString "no" == Str.ofString "maybe") = false) ∧ ((Str.ofString "no" == Str.ofString "cell") = false) ∧ ((Str.ofString "no" == Str.ofString "eq") = false) ∧ ((Str.ofString "no" == Str.ofString "lt") = false) ∧ ((Str.ofString "no" == Str.ofString "all") = false) ∧ ((Str.ofString "no" == Str.ofString "any") = false) ∧ ((Str.ofString "no" == Str.ofString "pair") = false) ∧ ((Str.ofString "no" == Str.ofString "missing") = false) ∧ ((Str.ofString "no" == Str.ofString "tables") = false) ∧ ((Str.ofString "no" == Str.ofString "sentence") = false) ∧ ((Str.ofString "no" == Str.ofString "column") = false) ∧ ((Str.ofString "no" == Str.ofString "top") = false) ∧ ((Str.ofString "no" == Str.ofString "many") = false) ∧ ((Str.ofString "no" == Str.ofString "text") = false) ∧ ((Str.ofString "no" == Str.ofString "other") = false) ∧ ((Str.ofString "no" == Str.ofString "met") = false) ∧ ((Str.ofString "no" == Str.ofString "another") = false) := by decide +kernel
@[simp] theorem wb23 : (Str.ofString "no" ≠ Str.ofString "gap") ∧ (Str.ofString "no" ≠ Str.ofString "col") ∧ (Str.ofString "no" ≠ Str.ofString "num") ∧ (Str.ofString "no" ≠ Str.ofString "plus") ∧ (Str.ofString "no" ≠ Str.ofString "take") ∧ (Str.ofString "no" ≠ Str.ofString "is") ∧ (Str.ofString "no" ≠ Str.ofString "less") ∧ (Str.ofString "no" ≠ Str.ofString "lacks") ∧ (Str.ofString "no" ≠ Str.ofString "not") ∧ (Str.ofString "no" ≠ Str.ofString "true") ∧ (Str.ofString "no" ≠ Str.ofString "and") ∧ (Str.ofString "no" ≠ Str.ofString "or") ∧ (Str.ofString "no" ≠ Str.ofString "rows") ∧ (Str.ofString "no" ≠ Str.ofString "keep") ∧ (Str.ofString "no" ≠ Str.ofString "pick") ∧ (Str.ofString "no" ≠ Str.ofString "join") ∧ (Str.ofString "no" ≠ Str.ofString "both") ∧ (Str.ofString "no" ≠ Str.ofString "without") ∧ (Str.ofString "no" ≠ Str.ofString "sure") ∧ (Str.ofString "no" ≠ Str.ofString "maybe") ∧ (Str.ofString "no" ≠ Str.ofString "cell") ∧ (Str.ofString "no" ≠ Str.ofString "eq") ∧ (Str.ofString "no" ≠ Str.ofString "lt") ∧ (Str.ofString "no" ≠ Str.ofString "all") ∧ (Str.ofString "no" ≠ Str.ofString "any") ∧ (Str.ofString "no" ≠ Str.ofString "pair") ∧ (Str.ofString "no" ≠ Str.ofString "missing") ∧ (Str.ofString "no" ≠ Str.ofString "tables") ∧ (Str.ofString "no" ≠ Str.ofString "sentence") ∧ (Str.ofString "no" ≠ Str.ofString "column") ∧ (Str.ofString "no" ≠ Str.ofString "top") ∧ (Str.ofString "no" ≠ Str.ofString "many") ∧ (Str.ofString "no" ≠ Str.ofString "text") ∧ (Str.ofString "no" ≠ Str.ofString "other") ∧ (Str.ofString "no" ≠ Str.ofString "met") ∧ (Str.ofString "no" ≠ Str.ofString "another") := by decide +kernel
@[simp] theorem wa24 : ((Str.ofString "all" == Str.ofString "gap") = false) ∧ ((Str.ofString "all" == Str.ofString "col") = false) ∧ ((Str.ofString "all" == Str.ofString "num") = false) ∧ ((Str.ofString "all" == Str.ofString "plus") = false) ∧ ((Str.ofString "all" == Str.ofString "take") = false) ∧ ((Str.ofString "all" == Str.ofString "is") = false) ∧ ((Str.ofString "all" == Str.ofString "less") = false) ∧ ((Str.ofString "all" == Str.ofString "lacks") = false) ∧ ((Str.ofString "all" == Str.ofString "not") = false) ∧ ((Str.ofString "all" == Str.ofString "true") = false) ∧ ((Str.ofString "all" == Str.ofString "and") = false) ∧ ((Str.ofString "all" == Str.ofString "or") = false) ∧ ((Str.ofString "all" == Str.ofString "rows") = false) ∧ ((Str.ofString "all" == Str.ofString "keep") = false) ∧ ((Str.ofString "all" == Str.ofString "pick") = false) ∧ ((Str.ofString "all" == Str.ofString "join") = false) ∧ ((Str.ofString "all" == Str.ofString "both") = false) ∧ ((Str.ofString "all" == Str.ofString "without") = false) ∧ ((Str.ofString "all" == Str.ofString "sure") = false) ∧ ((Str.ofString "all" == Str.ofString "maybe") = false) ∧ ((Str.ofString "all" == Str.ofString "cell") = false) ∧ ((Str.ofString "all" == Str.ofString "eq") = false) ∧ ((Str.ofString "all" == Str.ofString "lt") = false) ∧ ((Str.ofString "all" == Str.ofString "no") = false) ∧ ((Str.ofString "all" == Str.ofString "any") = false) ∧ ((Str.ofString "all" == Str.ofString "pair") = false) ∧ ((Str.ofString "all" == Str.ofString "missing") = false) ∧ ((Str.ofString "all" == Str.ofString "tables") = false) ∧ ((Str.ofString "all" == Str.ofString "sentence") = false) ∧ ((Str.ofString "all" == Str.ofString "column") = false) ∧ ((Str.ofString "all" == Str.ofString "top") = false) ∧ ((Str.ofString "all" == Str.ofString "many") = false) ∧ ((Str.ofString "all" == Str.ofString "text") = false) ∧ ((Str.ofString "all" == Str.ofString "other") = false) ∧ ((Str.ofString "all" == Str.ofString "met") = false) ∧ ((Str.ofString "all" == Str.ofString "another") = false) := by decide +kernel
@[simp] theorem wb24 : (Str.ofString "all" ≠ Str.ofString "gap") ∧ (Str.ofString "all" ≠ Str.ofString "col") ∧ (Str.ofString "all" ≠ Str.ofString "num") ∧ (Str.ofString "all" ≠ Str.ofString "plus") ∧ (Str.ofString "all" ≠ Str.ofString "take") ∧ (Str.ofString "all" ≠ Str.ofString "is") ∧ (Str.ofString "all" ≠ Str.ofString "less") ∧ (Str.ofString "all" ≠ Str.ofString "lacks") ∧ (Str.ofString "all" ≠ Str.ofString "not") ∧ (Str.ofString "all" ≠ Str.ofString "true") ∧ (Str.ofString "all" ≠ Str.ofString "and") ∧ (Str.ofString "all" ≠ Str.ofString "or") ∧ (Str.ofString "all" ≠ Str.ofString "rows") ∧ (Str.ofString "all" ≠ Str.ofString "keep") ∧ (Str.ofString "all" ≠ Str.ofString "pick") ∧ (Str.ofString "all" ≠ Str.ofString "join") ∧ (Str.ofString "all" ≠ Str.ofString "both") ∧ (Str.ofString "all" ≠ Str.ofString "without") ∧ (Str.ofString "all" ≠ Str.ofString "sure") ∧ (Str.ofString "all" ≠ Str.ofString "maybe") ∧ (Str.ofString "all" ≠ Str.ofString "cell") ∧ (Str.ofString "all" ≠ Str.ofString "eq") ∧ (Str.ofString "all" ≠ Str.ofString "lt") ∧ (Str.ofString "all" ≠ Str.ofString "no") ∧ (Str.ofString "all" ≠ Str.ofString "any") ∧ (Str.ofString "all" ≠ Str.ofString "pair") ∧ (Str.ofString "all" ≠ Str.ofString "missing") ∧ (Str.ofString "all" ≠ Str.ofString "tables") ∧ (Str.ofString "all" ≠ Str.ofString "sentence") ∧ (Str.ofString "all" ≠ Str.ofString "column") ∧ (Str.ofString "all" ≠ Str.ofString "top") ∧ (Str.ofString "all" ≠ Str.ofString "many") ∧ (Str.ofString "all" ≠ Str.ofString "text") ∧ (Str.ofString "all" ≠ Str.ofString "other") ∧ (Str.ofString "all" ≠ Str.ofString "met") ∧ (Str.ofString "all" ≠ Str.ofString "another") := by decide +kernel
@[simp] theorem wa25 : ((Str.ofString "any" == Str.ofString "gap") = false) ∧ ((Str.ofString "any" == Str.ofString "col") = false) ∧ ((Str.ofString "any" == Str.ofString "num") = false) ∧ ((Str.ofString "any" == Str.ofString "plus") = false) ∧ ((Str.ofString "any" == Str.ofString "take") = false) ∧ ((Str.ofString "any" == Str.ofString "is") = false) ∧ ((Str.ofString "any" == Str.ofString "less") = false) ∧ ((Str.ofString "any" == Str.ofString "lacks") = false) ∧ ((Str.ofString "any" == Str.ofString "not") = false) ∧ ((Str.ofString "any" == Str.ofString "true") = false) ∧ ((Str.ofString "any" == Str.ofString "and") = false) ∧ ((Str.ofString "any" == Str.ofString "or") = false) ∧ ((Str.ofString "any" == Str.ofString "rows") = false) ∧ ((Str.ofString "any" == Str.ofString "keep") = false) ∧ ((Str.ofString "any" == Str.ofString "pick") = false) ∧ ((Str.ofString "any" == Str.ofString "join") = false) ∧ ((Str.ofString "any" == Str.ofString "both") = false) ∧ ((Str.ofString "any" == Str.ofString "without") = false) ∧ ((Str.ofString "any" == Str.ofString "sure") = false) ∧ ((Str.ofString "any" == Str.ofString "maybe") = false) ∧ ((Str.ofString "any" == Str.ofString "cell") = false) ∧ ((Str.ofString "any" == Str.ofString "eq") = false) ∧ ((Str.ofString "any" == Str.ofString "lt") = false) ∧ ((Str.ofString "any" == Str.ofString "no") = false) ∧ ((Str.ofString "any" == Str.ofString "all") = false) ∧ ((Str.ofString "any" == Str.ofString "pair") = false) ∧ ((Str.ofString "any" == Str.ofString "missing") = false) ∧ ((Str.ofString "any" == Str.ofString "tables") = false) ∧ ((Str.ofString "any" == Str.ofString "sentence") = false) ∧ ((Str.ofString "any" == Str.ofString "column") = false) ∧ ((Str.ofString "any" == Str.ofString "top") = false) ∧ ((Str.ofString "any" == Str.ofString "many") = false) ∧ ((Str.ofString "any" == Str.ofString "text") = false) ∧ ((Str.ofString "any" == Str.ofString "other") = false) ∧ ((Str.ofString "any" == Str.ofString "met") = false) ∧ ((Str.ofString "any" == Str.ofString "another") = false) := by decide +kernel
@[simp] theorem wb25 : (Str.ofString "any" ≠ Str.ofString "gap") ∧ (Str.ofString "any" ≠ Str.ofString "col") ∧ (Str.ofString "any" ≠ Str.ofString "num") ∧ (Str.ofString "any" ≠ Str.ofString "plus") ∧ (Str.ofString "any" ≠ Str.ofString "take") ∧ (Str.ofString "any" ≠ Str.ofString "is") ∧ (Str.ofString "any" ≠ Str.ofString "less") ∧ (Str.ofString "any" ≠ Str.ofString "lacks") ∧ (Str.ofString "any" ≠ Str.ofString "not") ∧ (Str.ofString "any" ≠ Str.ofString "true") ∧ (Str.ofString "any" ≠ Str.ofString "and") ∧ (Str.ofString "any" ≠ Str.ofString "or") ∧ (Str.ofString "any" ≠ Str.ofString "rows") ∧ (Str.ofString "any" ≠ Str.ofString "keep") ∧ (Str.ofString "any" ≠ Str.ofString "pick") ∧ (Str.ofString "any" ≠ Str.ofString "join") ∧ (Str.ofString "any" ≠ Str.ofString "both") ∧ (Str.ofString "any" ≠ Str.ofString "without") ∧ (Str.ofString "any" ≠ Str.ofString "sure") ∧ (Str.ofString "any" ≠ Str.ofString "maybe") ∧ (Str.ofString "any" ≠ Str.ofString "cell") ∧ (Str.ofString "any" ≠ Str.ofString "eq") ∧ (Str.ofString "any" ≠ Str.ofString "lt") ∧ (Str.ofString "any" ≠ Str.ofString "no") ∧ (Str.ofString "any" ≠ Str.ofString "all") ∧ (Str.ofString "any" ≠ Str.ofString "pair") ∧ (Str.ofString "any" ≠ Str.ofString "missing") ∧ (Str.ofString "any" ≠ Str.ofString "tables") ∧ (Str.ofString "any" ≠ Str.ofString "sentence") ∧ (Str.ofString "any" ≠ Str.ofString "column") ∧ (Str.ofString "any" ≠ Str.ofString "top") ∧ (Str.ofString "any" ≠ Str.ofString "many") ∧ (Str.ofString "any" ≠ Str.ofString "text") ∧ (Str.ofString "any" ≠ Str.ofString "other") ∧ (Str.ofString "any" ≠ Str.ofString "met") ∧ (Str.ofString "any" ≠ Str.ofString "another") := by decide +kernel
@[simp] theorem wa26 : ((Str.ofString "pair" == Str.ofString "gap") = false) ∧ ((Str.ofString "pair" == Str.ofString "col") = false) ∧ ((Str.ofString "pair" == Str.ofString "num") = false) ∧ ((Str.ofString "pair" == Str.ofString "plus") = false) ∧ ((Str.ofString "pair" == Str.ofString "take") = false) ∧ ((Str.ofString "pair" == Str.ofString "is") = false) ∧ ((Str.ofString "pair" == Str.ofString "less") = false) ∧ ((Str.ofString "pair" == Str.ofString "lacks") = false) ∧ ((Str.ofString "pair" == Str.ofString "not") = false) ∧ ((Str.ofString "pair" == Str.ofString "true") = false) ∧ ((Str.ofString "pair" == Str.ofString "and") = false) ∧ ((Str.ofString "pair" == Str.ofString "or") = false) ∧ ((Str.ofString "pair" == Str.ofString "rows") = false) ∧ ((Str.ofString "pair" == Str.ofString "keep") = false) ∧ ((Str.ofString "pair" == Str.ofString "pick") = false) ∧ ((Str.ofString "pair" == Str.ofString "join") = false) ∧ ((Str.ofString "pair" == Str.ofString "both") = false) ∧ ((Str.ofString "pair" == Str.ofString "without") = false) ∧ ((Str.ofString "pair" == Str.ofString "sure") = false) ∧ ((Str.ofString "pair" == Str.ofString "maybe") = false) ∧ ((Str.ofString "pair" == Str.ofString "cell") = false) ∧ ((Str.ofString "pair" == Str.ofString "eq") = false) ∧ ((Str.ofString "pair" == Str.ofString "lt") = false) ∧ ((Str.ofString "pair" == Str.ofString "no") = false) ∧ ((Str.ofString "pair" == Str.ofString "all") = false) ∧ ((Str.ofString "pair" == Str.ofString "any") = false) ∧ ((Str.ofString "pair" == Str.ofString "missing") = false) ∧ ((Str.ofString "pair" == Str.ofString "tables") = false) ∧ ((Str.ofString "pair" == Str.ofString "sentence") = false) ∧ ((Str.ofString "pair" == Str.ofString "column") = false) ∧ ((Str.ofString "pair" == Str.ofString "top") = false) ∧ ((Str.ofString "pair" == Str.ofString "many") = false) ∧ ((Str.ofString "pair" == Str.ofString "text") = false) ∧ ((Str.ofString "pair" == Str.ofString "other") = false) ∧ ((Str.ofString "pair" == Str.ofString "met") = false) ∧ ((Str.ofString "pair" == Str.ofString "another") = false) := by decide +kernel
@[simp] theorem wb26 : (Str.ofString "pair" ≠ Str.ofString "gap") ∧ (Str.ofString "pair" ≠ Str.ofString "col") ∧ (Str.ofString "pair" ≠ Str.ofString "num") ∧ (Str.ofString "pair" ≠ Str.ofString "plus") ∧ (Str.ofString "pair" ≠ Str.ofString "take") ∧ (Str.ofString "pair" ≠ Str.ofString "is") ∧ (Str.ofString "pair" ≠ Str.ofString "less") ∧ (Str.ofString "pair" ≠ Str.ofString "lacks") ∧ (Str.ofString "pair" ≠ Str.ofString "not") ∧ (Str.ofString "pair" ≠ Str.ofString "true") ∧ (Str.ofString "pair" ≠ Str.ofString "and") ∧ (Str.ofString "pair" ≠ Str.ofString "or") ∧ (Str.ofString "pair" ≠ Str.ofString "rows") ∧ (Str.ofString "pair" ≠ Str.ofString "keep") ∧ (Str.ofString "pair" ≠ Str.ofString "pick") ∧ (Str.ofString "pair" ≠ Str.ofString "join") ∧ (Str.ofString "pair" ≠ Str.ofString "both") ∧ (Str.ofString "pair" ≠ Str.ofString "without") ∧ (Str.ofString "pair" ≠ Str.ofString "sure") ∧ (Str.ofString "pair" ≠ Str.ofString "maybe") ∧ (Str.ofString "pair" ≠ Str.ofString "cell") ∧ (Str.ofString "pair" ≠ Str.ofString "eq") ∧ (Str.ofString "pair" ≠ Str.ofString "lt") ∧ (Str.ofString "pair" ≠ Str.ofString "no") ∧ (Str.ofString "pair" ≠ Str.ofString "all") ∧ (Str.ofString "pair" ≠ Str.ofString "any") ∧ (Str.ofString "pair" ≠ Str.ofString "missing") ∧ (Str.ofString "pair" ≠ Str.ofString "tables") ∧ (Str.ofString "pair" ≠ Str.ofString "sentence") ∧ (Str.ofString "pair" ≠ Str.ofString "column") ∧ (Str.ofString "pair" ≠ Str.ofString "top") ∧ (Str.ofString "pair" ≠ Str.ofString "many") ∧ (Str.ofString "pair" ≠ Str.ofString "text") ∧ (Str.ofString "pair" ≠ Str.ofString "other") ∧ (Str.ofString "pair" ≠ Str.ofString "met") ∧ (Str.ofString "pair" ≠ Str.ofString "another") := by decide +kernel
@[simp] theorem wa27 : ((Str.ofString "missing" == Str.ofString "gap") = false) ∧ ((Str.ofString "missing" == Str.ofString "col") = false) ∧ ((Str.ofString "missing" == Str.ofString "num") = false) ∧ ((Str.ofString "missing" == Str.ofString "plus") = false) ∧ ((Str.ofString "missing" == Str.ofString "take") = false) ∧ ((Str.ofString "missing" == Str.ofString "is") = false) ∧ ((Str.ofString "missing" == Str.ofString "less") = false) ∧ ((Str.ofString "missing" == Str.ofString "lacks") = false) ∧ ((Str.ofString "missing" == Str.ofString "not") = false) ∧ ((Str.ofString "missing" == Str.ofString "true") = false) ∧ ((Str.ofString "missing" == Str.ofString "and") = false) ∧ ((Str.ofString "missing" == Str.ofString "or") = false) ∧ ((Str.ofString "missing" == Str.ofString "rows") = false) ∧ ((Str.ofString "missing" == Str.ofString "keep") = false) ∧ ((Str.ofString "missing" == Str.ofString "pick") = false) ∧ ((Str.ofString "missing" == Str.ofString "join") = false) ∧ ((Str.ofString "missing" == Str.ofString "both") = false) ∧ ((Str.ofString "missing" == Str.ofString "without") = false) ∧ ((Str.ofString "missing" == Str.ofString "sure") = false) ∧ ((Str.ofString "missing" == Str.ofString "maybe") = false) ∧ ((Str.ofString "missing" == Str.ofString "cell") = false) ∧ ((Str.ofString "missing" == Str.ofString "eq") = false) ∧ ((Str.ofString "missing" == Str.ofString "lt") = false) ∧ ((Str.ofString "missing" == Str.ofString "no") = false) ∧ ((Str.ofString "missing" == Str.ofString "all") = false) ∧ ((Str.ofString "missing" == Str.ofString "any") = false) ∧ ((Str.ofString "missing" == Str.ofString "pair") = false) ∧ ((Str.ofString "missing" == Str.ofString "tables") = false) ∧ ((Str.ofString "missing" == Str.ofString "sentence") = false) ∧ ((Str.ofString "missing" == Str.ofString "column") = false) ∧ ((Str.ofString "missing" == Str.ofString "top") = false) ∧ ((Str.ofString "missing" == Str.ofString "many") = false) ∧ ((Str.ofString "missing" == Str.ofString "text") = false) ∧ ((Str.ofString "missing" == Str.ofString "other") = false) ∧ ((Str.ofString "missing" == Str.ofString "met") = false) ∧ ((Str.ofString "missing" == Str.ofString "another") = false) := by decide +kernel
@[simp] theorem wb27 : (Str.ofString "missing" ≠ Str.ofString "gap") ∧ (Str.ofString "missing" ≠ Str.ofString "col") ∧ (Str.ofString "missing" ≠ Str.ofString "num") ∧ (Str.ofString "missing" ≠ Str.ofString "plus") ∧ (Str.ofString "missing" ≠ Str.ofString "take") ∧ (Str.ofString "missing" ≠ Str.ofString "is") ∧ (Str.ofString "missing" ≠ Str.ofString "less") ∧ (Str.ofString "missing" ≠ Str.ofString "lacks") ∧ (Str.ofString "missing" ≠ Str.ofString "not") ∧ (Str.ofString "missing" ≠ Str.ofString "true") ∧ (Str.ofString "missing" ≠ Str.ofString "and") ∧ (Str.ofString "missing" ≠ Str.ofString "or") ∧ (Str.ofString "missing" ≠ Str.ofString "rows") ∧ (Str.ofString "missing" ≠ Str.ofString "keep") ∧ (Str.ofString "missing" ≠ Str.ofString "pick") ∧ (Str.ofString "missing" ≠ Str.ofString "join") ∧ (Str.ofString "missing" ≠ Str.ofString "both") ∧ (Str.ofString "missing" ≠ Str.ofString "without") ∧ (Str.ofString "missing" ≠ Str.ofString "sure") ∧ (Str.ofString "missing" ≠ Str.ofString "maybe") ∧ (Str.ofString "missing" ≠ Str.ofString "cell") ∧ (Str.ofString "missing" ≠ Str.ofString "eq") ∧ (Str.ofString "missing" ≠ Str.ofString "lt") ∧ (Str.ofString "missing" ≠ Str.ofString "no") ∧ (Str.ofString "missing" ≠ Str.ofString "all") ∧ (Str.ofString "missing" ≠ Str.ofString "any") ∧ (Str.ofString "missing" ≠ Str.ofString "pair") ∧ (Str.ofString "missing" ≠ Str.ofString "tables") ∧ (Str.ofString "missing" ≠ Str.ofString "sentence") ∧ (Str.ofString "missing" ≠ Str.ofString "column") ∧ (Str.ofString "missing" ≠ Str.ofString "top") ∧ (Str.ofString "missing" ≠ Str.ofString "many") ∧ (Str.ofString "missing" ≠ Str.ofString "text") ∧ (Str.ofString "missing" ≠ Str.ofString "other") ∧ (Str.ofString "missing" ≠ Str.ofString "met") ∧ (Str.ofString "missing" ≠ Str.ofString "another") := by decide +kernel
@[simp] theorem wa28 : ((Str.ofString "tables" == Str.ofString "gap") = false) ∧ ((Str.ofString "tables" == Str.ofString "col") = false) ∧ ((Str.ofString "tables" == Str.ofString "num") = false) ∧ ((Str.ofString "tables" == Str.ofString "plus") = false) ∧ ((Str.ofString "tables" == Str.ofString "take") = false) ∧ ((Str.ofString "tables" == Str.ofString "is") = false) ∧ ((Str.ofString "tables" == Str.ofString "less") = false) ∧ ((Str.ofString "tables" == Str.ofString "lacks") = false) ∧ ((Str.ofString "tables" == Str.ofString "not") = false) ∧ ((Str.ofString "tables" == Str.ofString "true") = false) ∧ ((Str.ofString "tables" == Str.ofString "and") = false) ∧ ((Str.ofString "tables" == Str.ofString "or") = false) ∧ ((Str.ofString "tables" == Str.ofString "rows") = false) ∧ ((Str.ofString "tables" == Str.ofString "keep") = false) ∧ ((Str.ofString "tables" == Str.ofString "pick") = false) ∧ ((Str.ofString "tables" == Str.ofString "join") = false) ∧ ((Str.ofString "tables" == Str.ofString "both") = false) ∧ ((Str.ofString "tables" == Str.ofString "without") = false) ∧ ((Str.ofString "tables" == Str.ofString "sure") = false) ∧ ((Str.ofString "tables" == Str.ofString "maybe") = false) ∧ ((Str.ofString "tables" == Str.ofString "cell") = false) ∧ ((Str.ofString "tables" == Str.ofString "eq") = false) ∧ ((Str.ofString "tables" == Str.ofString "lt") = false) ∧ ((Str.ofString "tables" == Str.ofString "no") = false) ∧ ((Str.ofString "tables" == Str.ofString "all") = false) ∧ ((Str.ofString "tables" == Str.ofString "any") = false) ∧ ((Str.ofString "tables" == Str.ofString "pair") = false) ∧ ((Str.ofString "tables" == Str.ofString "missing") = false) ∧ ((Str.ofString "tables" == Str.ofString "sentence") = false) ∧ ((Str.ofString "tables" == Str.ofString "column") = false) ∧ ((Str.ofString "tables" == Str.ofString "top") = false) ∧ ((Str.ofString "tables" == Str.ofString "many") = false) ∧ ((Str.ofString "tables" == Str.ofString "text") = false) ∧ ((Str.ofString "tables" == Str.ofString "other") = false) ∧ ((Str.ofString "tables" == Str.ofString "met") = false) ∧ ((Str.ofString "tables" == Str.ofString "another") = false) := by decide +kernel
@[simp] theorem wb28 : (Str.ofString "tables" ≠ Str.ofString "gap") ∧ (Str.ofString "tables" ≠ Str.ofString "col") ∧ (Str.ofString "tables" ≠ Str.ofString "num") ∧ (Str.ofString "tables" ≠ Str.ofString "plus") ∧ (Str.ofString "tables" ≠ Str.ofString "take") ∧ (Str.ofString "tables" ≠ Str.ofString "is") ∧ (Str.ofString "tables" ≠ Str.ofString "less") ∧ (Str.ofString "tables" ≠ Str.ofString "lacks") ∧ (Str.ofString "tables" ≠ Str.ofString "not") ∧ (Str.ofString "tables" ≠ Str.ofString "true") ∧ (Str.ofString "tables" ≠ Str.ofString "and") ∧ (Str.ofString "tables" ≠ Str.ofString "or") ∧ (Str.ofString "tables" ≠ Str.ofString "rows") ∧ (Str.ofString "tables" ≠ Str.ofString "keep") ∧ (Str.ofString "tables" ≠ Str.ofString "pick") ∧ (Str.ofString "tables" ≠ Str.ofString "join") ∧ (Str.ofString "tables" ≠ Str.ofString "both") ∧ (Str.ofString "tables" ≠ Str.ofString "without") ∧ (Str.ofString "tables" ≠ Str.ofString "sure") ∧ (Str.ofString "tables" ≠ Str.ofString "maybe") ∧ (Str.ofString "tables" ≠ Str.ofString "cell") ∧ (Str.ofString "tables" ≠ Str.ofString "eq") ∧ (Str.ofString "tables" ≠ Str.ofString "lt") ∧ (Str.ofString "tables" ≠ Str.ofString "no") ∧ (Str.ofString "tables" ≠ Str.ofString "all") ∧ (Str.ofString "tables" ≠ Str.ofString "any") ∧ (Str.ofString "tables" ≠ Str.ofString "pair") ∧ (Str.ofString "tables" ≠ Str.ofString "missing") ∧ (Str.ofString "tables" ≠ Str.ofString "sentence") ∧ (Str.ofString "tables" ≠ Str.ofString "column") ∧ (Str.ofString "tables" ≠ Str.ofString "top") ∧ (Str.ofString "tables" ≠ Str.ofString "many") ∧ (Str.ofString "tables" ≠ Str.ofString "text") ∧ (Str.ofString "tables" ≠ Str.ofString "other") ∧ (Str.ofString "tables" ≠ Str.ofString "met") ∧ (Str.ofString "tables" ≠ Str.ofString "another") := by decide +kernel
@[simp] theorem wa29 : ((Str.ofString "sentence" == Str.ofString "gap") = false) ∧ ((Str.ofString "sentence" == Str.ofString "col") = false) ∧ ((Str.ofString "sentence" == Str.ofString "num") = false) ∧ ((Str.ofString "sentence" == Str.ofString "plus") = false) ∧ ((Str.ofString "sentence" == Str.ofString "take") = false) ∧ ((Str.ofString "sentence" == Str.ofString "is") = false) ∧ ((Str.ofString "sentence" == Str.ofString "less") = false) ∧ ((Str.ofString "sentence" == Str.ofString "lacks") = false) ∧ ((Str.ofString "sentence" == Str.ofString "not") = false) ∧ ((Str.ofString "sentence" == Str.ofString "true") = false) ∧ ((Str.ofString "sentence" == Str.ofString "and") = false) ∧ ((Str.ofString "sentence" == Str.ofString "or") = false) ∧ ((Str.ofString "sentence" == Str.ofString "rows") = false) ∧ ((Str.ofString "sentence" == Str.ofString "keep") = false) ∧ ((Str.ofString "sentence" == Str.ofString "pick") = false) ∧ ((Str.ofString "sentence" == Str.ofString "join") = false) ∧ ((Str.ofString "sentence" == Str.ofString "both") = false) ∧ ((Str.ofString "sentence" == Str.ofString "without") = false) ∧ ((Str.ofString "sentence" == Str.ofString "sure") = false) ∧ ((Str.ofString "sentence" == Str.ofString "maybe") = false) ∧ ((Str.ofString "sentence" == Str.ofString "cell") = false) ∧ ((Str.ofString "sentence" == Str.ofString "eq") = false) ∧ ((Str.ofString "sentence" == Str.ofString "lt") = false) ∧ ((Str.ofString "sentence" == Str.ofString "no") = false) ∧ ((Str.ofString "sentence" == Str.ofString "all") = false) ∧ ((Str.ofString "sentence" == Str.ofString "any") = false) ∧ ((Str.ofString "sentence" == Str.ofString "pair") = false) ∧ ((Str.ofString "sentence" == Str.ofString "missing") = false) ∧ ((Str.ofString "sentence" == Str.ofString "tables") = false) ∧ ((Str.ofString "sentence" == Str.ofString "column") = false) ∧ ((Str.ofString "sentence" == Str.ofString "top") = false) ∧ ((Str.ofString "sentence" == Str.ofString "many") = false) ∧ ((Str.ofString "sentence" == Str.ofString "text") = false) ∧ ((Str.ofString "sentence" == Str.ofString "other") = false) ∧ ((Str.ofString "sentence" == Str.ofString "met") = false) ∧ ((Str.ofString "sentence" == Str.ofString "another") = false) := by decide +kernel
@[simp] theorem wb29 : (Str.ofString "sentence" ≠ Str.ofString "gap") ∧ (Str.ofString "sentence" ≠ Str.ofString "col") ∧ (Str.ofString "sentence" ≠ Str.ofString "num") ∧ (Str.ofString "sentence" ≠ Str.ofString "plus") ∧ (Str.ofString "sentence" ≠ Str.ofString "take") ∧ (Str.ofString "sentence" ≠ Str.ofString "is") ∧ (Str.ofString "sentence" ≠ Str.ofString "less") ∧ (Str.ofString "sentence" ≠ Str.ofString "lacks") ∧ (Str.ofString "sentence" ≠ Str.ofString "not") ∧ (Str.ofString "sentence" ≠ Str.ofString "true") ∧ (Str.ofString "sentence" ≠ Str.ofString "and") ∧ (Str.ofString "sentence" ≠ Str.ofString "or") ∧ (Str.ofString "sentence" ≠ Str.ofString "rows") ∧ (Str.ofString "sentence" ≠ Str.ofString "keep") ∧ (Str.ofString "sentence" ≠ Str.ofString "pick") ∧ (Str.ofString "sentence" ≠ Str.ofString "join") ∧ (Str.ofString "sentence" ≠ Str.ofString "both") ∧ (Str.ofString "sentence" ≠ Str.ofString "without") ∧ (Str.ofString "sentence" ≠ Str.ofString "sure") ∧ (Str.ofString "sentence" ≠ Str.ofString "maybe") ∧ (Str.ofString "sentence" ≠ Str.ofString "cell") ∧ (Str.ofString "sentence" ≠ Str.ofString "eq") ∧ (Str.ofString "sentence" ≠ Str.ofString "lt") ∧ (Str.ofString "sentence" ≠ Str.ofString "no") ∧ (Str.ofString "sentence" ≠ Str.ofString "all") ∧ (Str.ofString "sentence" ≠ Str.ofString "any") ∧ (Str.ofString "sentence" ≠ Str.ofString "pair") ∧ (Str.ofString "sentence" ≠ Str.ofString "missing") ∧ (Str.ofString "sentence" ≠ Str.ofString "tables") ∧ (Str.ofString "sentence" ≠ Str.ofString "column") ∧ (Str.ofString "sentence" ≠ Str.ofString "top") ∧ (Str.ofString "sentence" ≠ Str.ofString "many") ∧ (Str.ofString "sentence" ≠ Str.ofString "text") ∧ (Str.ofString "sentence" ≠ Str.ofString "other") ∧ (Str.ofString "sentence" ≠ Str.ofString "met") ∧ (Str.ofString "sentence" ≠ Str.ofString "another") := by decide +kernel
@[simp] theorem wa30 : ((Str.ofString "column" == Str.ofString "gap") = false) ∧ ((Str.ofString "column" == Str.ofString "col") = false) ∧ ((Str.ofString "column" == Str.ofString "num") = false) ∧ ((Str.ofString "column" == Str.ofString "plus") = false) ∧ ((Str.ofString "column" == Str.ofString "take") = false) ∧ ((Str.ofString "column" == Str.ofString "is") = false) ∧ ((Str.ofString "column" == Str.ofString "less") = false) ∧ ((Str.ofString "column" == Str.ofString "lacks") = false) ∧ ((Str.ofString "column" == Str.ofString "not") = false) ∧ ((Str.ofString "column" == Str.ofString "true") = false) ∧ ((Str.ofString "column" == Str.ofString "and") = false) ∧ ((Str.ofString "column" == Str.ofString "or") = false) ∧ ((Str.ofString "column" == Str.ofString "rows") = false) ∧ ((Str.ofString "column" == Str.ofString "keep") = false) ∧ ((Str.ofString "column" == Str.ofString "pick") = false) ∧ ((Str.ofString "column" == Str.ofString "join") = false) ∧ ((Str.ofString "column" == Str.ofString "both") = false) ∧ ((Str.ofString "column" == Str.ofString "without") = false) ∧ ((Str.ofString "column" == Str.ofString "sure") = false) ∧ ((Str.ofString "column" == Str.ofString "maybe") = false) ∧ ((Str.ofString "column" == Str.ofString "cell") = false) ∧ ((Str.ofString "column" == Str.ofString "eq") = false) ∧ ((Str.ofString "column" == Str.ofString "lt") = false) ∧ ((Str.ofString "column" == Str.ofString "no") = false) ∧ ((Str.ofString "column" == Str.ofString "all") = false) ∧ ((Str.ofString "column" == Str.ofString "any") = false) ∧ ((Str.ofString "column" == Str.ofString "pair") = false) ∧ ((Str.ofString "column" == Str.ofString "missing") = false) ∧ ((Str.ofString "column" == Str.ofString "tables") = false) ∧ ((Str.ofString "column" == Str.ofString "sentence") = false) ∧ ((Str.ofString "column" == Str.ofString "top") = false) ∧ ((Str.ofString "column" == Str.ofString "many") = false) ∧ ((Str.ofString "column" == Str.ofString "text") = false) ∧ ((Str.ofString "column" == Str.ofString "other") = false) ∧ ((Str.ofString "column" == Str.ofString "met") = false) ∧ ((Str.ofString "column" == Str.ofString "another") = false) := by decide +kernel
@[simp] theorem wb30 : (Str.ofString "column" ≠ Str.ofString "gap") ∧ (Str.ofString "column" ≠ Str.ofString "col") ∧ (Str.ofString "column" ≠ Str.ofString "num") ∧ (Str.ofString "column" ≠ Str.ofString "plus") ∧ (Str.ofString "column" ≠ Str.ofString "take") ∧ (Str.ofString "column" ≠ Str.ofString "is") ∧ (Str.ofString "column" ≠ Str.ofString "less") ∧ (Str.ofString "column" ≠ Str.ofString "lacks") ∧ (Str.ofString "column" ≠ Str.ofString "not") ∧ (Str.ofString "column" ≠ Str.ofString "true") ∧ (Str.ofString "column" ≠ Str.ofString "and") ∧ (Str.ofString "column" ≠ Str.ofString "or") ∧ (Str.ofString "column" ≠ Str.ofString "rows") ∧ (Str.ofString "column" ≠ Str.ofString "keep") ∧ (Str.ofString "column" ≠ Str.ofString "pick") ∧ (Str.ofString "column" ≠ Str.ofString "join") ∧ (Str.ofString "column" ≠ Str.ofString "both") ∧ (Str.ofString "column" ≠ Str.ofString "without") ∧ (Str.ofString "column" ≠ Str.ofString "sure") ∧ (Str.ofString "column" ≠ Str.ofString "maybe") ∧ (Str.ofString "column" ≠ Str.ofString "cell") ∧ (Str.ofString "column" ≠ Str.ofString "eq") ∧ (Str.ofString "column" ≠ Str.ofString "lt") ∧ (Str.ofString "column" ≠ Str.ofString "no") ∧ (Str.ofString "column" ≠ Str.ofString "all") ∧ (Str.ofString "column" ≠ Str.ofString "any") ∧ (Str.ofString "column" ≠ Str.ofString "pair") ∧ (Str.ofString "column" ≠ Str.ofString "missing") ∧ (Str.ofString "column" ≠ Str.ofString "tables") ∧ (Str.ofString "column" ≠ Str.ofString "sentence") ∧ (Str.ofString "column" ≠ Str.ofString "top") ∧ (Str.ofString "column" ≠ Str.ofString "many") ∧ (Str.ofString "column" ≠ Str.ofString "text") ∧ (Str.ofString "column" ≠ Str.ofString "other") ∧ (Str.ofString "column" ≠ Str.ofString "met") ∧ (Str.ofString "column" ≠ Str.ofString "another") := by decide +kernel
@[simp] theorem wa31 : ((Str.ofString "top" == Str.ofString "gap") = false) ∧ ((Str.ofString "top" == Str.ofString "col") = false) ∧ ((Str.ofString "top" == Str.ofString "num") = false) ∧ ((Str.ofString "top" == Str.ofString "plus") = false) ∧ ((Str.ofString "top" == Str.ofString "take") = false) ∧ ((Str.ofString "top" == Str.ofString "is") = false) ∧ ((Str.ofString "top" == Str.ofString "less") = false) ∧ ((Str.ofString "top" == Str.ofString "lacks") = false) ∧ ((Str.ofString "top" == Str.ofString "not") = false) ∧ ((Str.ofString "top" == Str.ofString "true") = false) ∧ ((Str.ofString "top" == Str.ofString "and") = false) ∧ ((Str.ofString "top" == Str.ofString "or") = false) ∧ ((Str.ofString "top" == Str.ofString "rows") = false) ∧ ((Str.ofString "top" == Str.ofString "keep") = false) ∧ ((Str.ofString "top" == Str.ofString "pick") = false) ∧ ((Str.ofString "top" == Str.ofString "join") = false) ∧ ((Str.ofString "top" == Str.ofString "both") = false) ∧ ((Str.ofString "top" == Str.ofString "without") = false) ∧ ((Str.ofString "top" == Str.ofString "sure") = false) ∧ ((Str.ofString "top" == Str.ofString "maybe") = false) ∧ ((Str.ofString "top" == Str.ofString "cell") = false) ∧ ((Str.ofString "top" == Str.ofString "eq") = false) ∧ ((Str.ofString "top" == Str.ofString "lt") = false) ∧ ((Str.ofString "top" == Str.ofString "no") = false) ∧ ((Str.ofString "top" == Str.ofString "all") = false) ∧ ((Str.ofString "top" == Str.ofString "any") = false) ∧ ((Str.ofString "top" == Str.ofString "pair") = false) ∧ ((Str.ofString "top" == Str.ofString "missing") = false) ∧ ((Str.ofString "top" == Str.ofString "tables") = false) ∧ ((Str.ofString "top" == Str.ofString "sentence") = false) ∧ ((Str.ofString "top" == Str.ofString "column") = false) ∧ ((Str.ofString "top" == Str.ofString "many") = false) ∧ ((Str.ofString "top" == Str.ofString "text") = false) ∧ ((Str.ofString "top" == Str.ofString "other") = false) ∧ ((Str.ofString "top" == Str.ofString "met") = false) ∧ ((Str.ofString "top" == Str.ofString "another") = false) := by decide +kernel
@[simp] theorem wb31 : (Str.ofString "top" ≠ Str.ofString "gap") ∧ (Str.ofString "top" ≠ Str.ofString "col") ∧ (Str.ofString "top" ≠ Str.ofString "num") ∧ (Str.ofString "top" ≠ Str.ofString "plus") ∧ (Str.ofString "top" ≠ Str.ofString "take") ∧ (Str.ofString "top" ≠ Str.ofString "is") ∧ (Str.ofString "top" ≠ Str.ofString "less") ∧ (Str.ofString "top" ≠ Str.ofString "lacks") ∧ (Str.ofString "top" ≠ Str.ofString "not") ∧ (Str.ofString "top" ≠ Str.ofString "true") ∧ (Str.ofString "top" ≠ Str.ofString "and") ∧ (Str.ofString "top" ≠ Str.ofString "or") ∧ (Str.ofString "top" ≠ Str.ofString "rows") ∧ (Str.ofString "top" ≠ Str.ofString "keep") ∧ (Str.ofString "top" ≠ Str.ofString "pick") ∧ (Str.ofString "top" ≠ Str.ofString "join") ∧ (Str.ofString "top" ≠ Str.ofString "both") ∧ (Str.ofString "top" ≠ Str.ofString "without") ∧ (Str.ofString "top" ≠ Str.ofString "sure") ∧ (Str.ofString "top" ≠ Str.ofString "maybe") ∧ (Str.ofString "top" ≠ Str.ofString "cell") ∧ (Str.ofString "top" ≠ Str.ofString "eq") ∧ (Str.ofString "top" ≠ Str.ofString "lt") ∧ (Str.ofString "top" ≠ Str.ofString "no") ∧ (Str.ofString "top" ≠ Str.ofString "all") ∧ (Str.ofString "top" ≠ Str.ofString "any") ∧ (Str.ofString "top" ≠ Str.ofString "pair") ∧ (Str.ofString "top" ≠ Str.ofString "missing") ∧ (Str.ofString "top" ≠ Str.ofString "tables") ∧ (Str.ofString "top" ≠ Str.ofString "sentence") ∧ (Str.ofString "top" ≠ Str.ofString "column") ∧ (Str.ofString "top" ≠ Str.ofString "many") ∧ (Str.ofString "top" ≠ Str.ofString "text") ∧ (Str.ofString "top" ≠ Str.ofString "other") ∧ (Str.ofString "top" ≠ Str.ofString "met") ∧ (Str.ofString "top" ≠ Str.ofString "another") := by decide +kernel
@[simp] theorem wa32 : ((Str.ofString "many" == Str.ofString "gap") = false) ∧ ((Str.ofString "many" == Str.ofString "col") = false) ∧ ((Str.ofString "many" == Str.ofString "num") = false) ∧ ((Str.ofString "many" == Str.ofString "plus") = false) ∧ ((Str.ofString "many" == Str.ofString "take") = false) ∧ ((Str.ofString "many" == Str.ofString "is") = false) ∧ ((Str.ofString "many" == Str.ofString "less") = false) ∧ ((Str.ofString "many" == Str.ofString "lacks") = false) ∧ ((Str.ofString "many" == Str.ofString "not") = false) ∧ ((Str.ofString "many" == Str.ofString "true") = false) ∧ ((Str.ofString "many" == Str.ofString "and") = false) ∧ ((Str.ofString "many" == Str.ofString "or") = false) ∧ ((Str.ofString "many" == Str.ofString "rows") = false) ∧ ((Str.ofString "many" == Str.ofString "keep") = false) ∧ ((Str.ofString "many" == Str.ofString "pick") = false) ∧ ((Str.ofString "many" == Str.ofString "join") = false) ∧ ((Str.ofString "many" == Str.ofString "both") = false) ∧ ((Str.ofString "many" == Str.ofString "without") = false) ∧ ((Str.ofString "many" == Str.ofString "sure") = false) ∧ ((Str.ofString "many" == Str.ofString "maybe") = false) ∧ ((Str.ofString "many" == Str.ofString "cell") = false) ∧ ((Str.ofString "many" == Str.ofString "eq") = false) ∧ ((Str.ofString "many" == Str.ofString "lt") = false) ∧ ((Str.ofString "many" == Str.ofString "no") = false) ∧ ((Str.ofString "many" == Str.ofString "all") = false) ∧ ((Str.ofString "many" == Str.ofString "any") = false) ∧ ((Str.ofString "many" == Str.ofString "pair") = false) ∧ ((Str.ofString "many" == Str.ofString "missing") = false) ∧ ((Str.ofString "many" == Str.ofString "tables") = false) ∧ ((Str.ofString "many" == Str.ofString "sentence") = false) ∧ ((Str.ofString "many" == Str.ofString "column") = false) ∧ ((Str.ofString "many" == Str.ofString "top") = false) ∧ ((Str.ofString "many" == Str.ofString "text") = false) ∧ ((Str.ofString "many" == Str.ofString "other") = false) ∧ ((Str.ofString "many" == Str.ofString "met") = false) ∧ ((Str.ofString "many" == Str.ofString "another") = false) := by decide +kernel
@[simp] theorem wb32 : (Str.ofString "many" ≠ Str.ofString "gap") ∧ (Str.ofString "many" ≠ Str.ofString "col") ∧ (Str.ofString "many" ≠ Str.ofString "num") ∧ (Str.ofString "many" ≠ Str.ofString "plus") ∧ (Str.ofString "many" ≠ Str.ofString "take") ∧ (Str.ofString "many" ≠ Str.ofString "is") ∧ (Str.ofString "many" ≠ Str.ofString "less") ∧ (Str.ofString "many" ≠ Str.ofString "lacks") ∧ (Str.ofString "many" ≠ Str.ofString "not") ∧ (Str.ofString "many" ≠ Str.ofString "true") ∧ (Str.ofString "many" ≠ Str.ofString "and") ∧ (Str.ofString "many" ≠ Str.ofString "or") ∧ (Str.ofString "many" ≠ Str.ofString "rows") ∧ (Str.ofString "many" ≠ Str.ofString "keep") ∧ (Str.ofString "many" ≠ Str.ofString "pick") ∧ (Str.ofString "many" ≠ Str.ofString "join") ∧ (Str.ofString "many" ≠ Str.ofString "both") ∧ (Str.ofString "many" ≠ Str.ofString "without") ∧ (Str.ofString "many" ≠ Str.ofString "sure") ∧ (Str.ofString "many" ≠ Str.ofString "maybe") ∧ (Str.ofString "many" ≠ Str.ofString "cell") ∧ (Str.ofString "many" ≠ Str.ofString "eq") ∧ (Str.ofString "many" ≠ Str.ofString "lt") ∧ (Str.ofString "many" ≠ Str.ofString "no") ∧ (Str.ofString "many" ≠ Str.ofString "all") ∧ (Str.ofString "many" ≠ Str.ofString "any") ∧ (Str.ofString "many" ≠ Str.ofString "pair") ∧ (Str.ofString "many" ≠ Str.ofString "missing") ∧ (Str.ofString "many" ≠ Str.ofString "tables") ∧ (Str.ofString "many" ≠ Str.ofString "sentence") ∧ (Str.ofString "many" ≠ Str.ofString "column") ∧ (Str.ofString "many" ≠ Str.ofString "top") ∧ (Str.ofString "many" ≠ Str.ofString "text") ∧ (Str.ofString "many" ≠ Str.ofString "other") ∧ (Str.ofString "many" ≠ Str.ofString "met") ∧ (Str.ofString "many" ≠ Str.ofString "another") := by decide +kernel
@[simp] theorem wa33 : ((Str.ofString "text" == Str.ofString "gap") = false) ∧ ((Str.ofString "text" == Str.ofString "col") = false) ∧ ((Str.ofString "text" == Str.ofString "num") = false) ∧ ((Str.ofString "text" == Str.ofString "plus") = false) ∧ ((Str.ofString "text" == Str.ofString "take") = false) ∧ ((Str.ofString "text" == Str.ofString "is") = false) ∧ ((Str.ofString "text" == Str.ofString "less") = false) ∧ ((Str.ofString "text" == Str.ofString "lacks") = false) ∧ ((Str.ofString "text" == Str.ofString "not") = false) ∧ ((Str.ofString "text" == Str.ofString "true") = false) ∧ ((Str.ofString "text" == Str.ofString "and") = false) ∧ ((Str.ofString "text" == Str.ofString "or") = false) ∧ ((Str.ofString "text" == Str.ofString "rows") = false) ∧ ((Str.ofString "text" == Str.ofString "keep") = false) ∧ ((Str.ofString "text" == Str.ofString "pick") = false) ∧ ((Str.ofString "text" == Str.ofString "join") = false) ∧ ((Str.ofString "text" == Str.ofString "both") = false) ∧ ((Str.ofString "text" == Str.ofString "without") = false) ∧ ((Str.ofString "text" == Str.ofString "sure") = false) ∧ ((Str.ofString "text" == Str.ofString "maybe") = false) ∧ ((Str.ofString "text" == Str.ofString "cell") = false) ∧ ((Str.ofString "text" == Str.ofString "eq") = false) ∧ ((Str.ofString "text" == Str.ofString "lt") = false) ∧ ((Str.ofString "text" == Str.ofString "no") = false) ∧ ((Str.ofString "text" == Str.ofString "all") = false) ∧ ((Str.ofString "text" == Str.ofString "any") = false) ∧ ((Str.ofString "text" == Str.ofString "pair") = false) ∧ ((Str.ofString "text" == Str.ofString "missing") = false) ∧ ((Str.ofString "text" == Str.ofString "tables") = false) ∧ ((Str.ofString "text" == Str.ofString "sentence") = false) ∧ ((Str.ofString "text" == Str.ofString "column") = false) ∧ ((Str.ofString "text" == Str.ofString "top") = false) ∧ ((Str.ofString "text" == Str.ofString "many") = false) ∧ ((Str.ofString "text" == Str.ofString "other") = false) ∧ ((Str.ofString "text" == Str.ofString "met") = false) ∧ ((Str.ofString "text" == Str.ofString "another") = false) := by decide +kernel
@[simp] theorem wb33 : (Str.ofString "text" ≠ Str.ofString "gap") ∧ (Str.ofString "text" ≠ Str.ofString "col") ∧ (Str.ofString "text" ≠ Str.ofString "num") ∧ (Str.ofString "text" ≠ Str.ofString "plus") ∧ (Str.ofString "text" ≠ Str.ofString "take") ∧ (Str.ofString "text" ≠ Str.ofString "is") ∧ (Str.ofString "text" ≠ Str.ofString "less") ∧ (Str.ofString "text" ≠ Str.ofString "lacks") ∧ (Str.ofString "text" ≠ Str.ofString "not") ∧ (Str.ofString "text" ≠ Str.ofString "true") ∧ (Str.ofString "text" ≠ Str.ofString "and") ∧ (Str.ofString "text" ≠ Str.ofString "or") ∧ (Str.ofString "text" ≠ Str.ofString "rows") ∧ (Str.ofString "text" ≠ Str.ofString "keep") ∧ (Str.ofString "text" ≠ Str.ofString "pick") ∧ (Str.ofString "text" ≠ Str.ofString "join") ∧ (Str.ofString "text" ≠ Str.ofString "both") ∧ (Str.ofString "text" ≠ Str.ofString "without") ∧ (Str.ofString "text" ≠ Str.ofString "sure") ∧ (Str.ofString "text" ≠ Str.ofString "maybe") ∧ (Str.ofString "text" ≠ Str.ofString "cell") ∧ (Str.ofString "text" ≠ Str.ofString "eq") ∧ (Str.ofString "text" ≠ Str.ofString "lt") ∧ (Str.ofString "text" ≠ Str.ofString "no") ∧ (Str.ofString "text" ≠ Str.ofString "all") ∧ (Str.ofString "text" ≠ Str.ofString "any") ∧ (Str.ofString "text" ≠ Str.ofString "pair") ∧ (Str.ofString "text" ≠ Str.ofString "missing") ∧ (Str.ofString "text" ≠ Str.ofString "tables") ∧ (Str.ofString "text" ≠ Str.ofString "sentence") ∧ (Str.ofString "text" ≠ Str.ofString "column") ∧ (Str.ofString "text" ≠ Str.ofString "top") ∧ (Str.ofString "text" ≠ Str.ofString "many") ∧ (Str.ofString "text" ≠ Str.ofString "other") ∧ (Str.ofString "text" ≠ Str.ofString "met") ∧ (Str.ofString "text" ≠ Str.ofString "another") := by decide +kernel
@[simp] theorem wa34 : ((Str.ofString "other" == Str.ofString "gap") = false) ∧ ((Str.ofString "other" == Str.ofString "col") = false) ∧ ((Str.ofString "other" == Str.ofString "num") = false) ∧ ((Str.ofString "other" == Str.ofString "plus") = false) ∧ ((Str.ofString "other" == Str.ofString "take") = false) ∧ ((Str.ofString "other" == Str.ofString "is") = false) ∧ ((Str.ofString "other" == Str.ofString "less") = false) ∧ ((Str.ofString "other" == Str.ofString "lacks") = false) ∧ ((Str.ofString "other" == Str.ofString "not") = false) ∧ ((Str.ofString "other" == Str.ofString "true") = false) ∧ ((Str.ofString "other" == Str.ofString "and") = false) ∧ ((Str.ofString "other" == Str.ofString "or") = false) ∧ ((Str.ofString "other" == Str.ofString "rows") = false) ∧ ((Str.ofString "other" == Str.ofString "keep") = false) ∧ ((Str.ofString "other" == Str.ofString "pick") = false) ∧ ((Str.ofString "other" == Str.ofString "join") = false) ∧ ((Str.ofString "other" == Str.ofString "both") = false) ∧ ((Str.ofString "other" == Str.ofString "without") = false) ∧ ((Str.ofString "other" == Str.ofString "sure") = false) ∧ ((Str.ofString "other" == Str.ofString "maybe") = false) ∧ ((Str.ofString "other" == Str.ofString "cell") = false) ∧ ((Str.ofString "other" == Str.ofString "eq") = false) ∧ ((Str.ofString "other" == Str.ofString "lt") = false) ∧ ((Str.ofString "other" == Str.ofString "no") = false) ∧ ((Str.ofString "other" == Str.ofString "all") = false) ∧ ((Str.ofString "other" == Str.ofString "any") = false) ∧ ((Str.ofString "other" == Str.ofString "pair") = false) ∧ ((Str.ofString "other" == Str.ofString "missing") = false) ∧ ((Str.ofString "other" == Str.ofString "tables") = false) ∧ ((Str.ofString "other" == Str.ofString "sentence") = false) ∧ ((Str.ofString "other" == Str.ofString "column") = false) ∧ ((Str.ofString "other" == Str.ofString "top") = false) ∧ ((Str.ofString "other" == Str.ofString "many") = false) ∧ ((Str.ofString "other" == Str.ofString "text") = false) ∧ ((Str.ofString "other" == Str.ofString "met") = false) ∧ ((Str.ofString "other" == Str.ofString "another") = false) := by decide +kernel
@[simp] theorem wb34 : (Str.ofString "other" ≠ Str.ofString "gap") ∧ (Str.ofString "other" ≠ Str.ofString "col") ∧ (Str.ofString "other" ≠ Str.ofString "num") ∧ (Str.ofString "other" ≠ Str.ofString "plus") ∧ (Str.ofString "other" ≠ Str.ofString "take") ∧ (Str.ofString "other" ≠ Str.ofString "is") ∧ (Str.ofString "other" ≠ Str.ofString "less") ∧ (Str.ofString "other" ≠ Str.ofString "lacks") ∧ (Str.ofString "other" ≠ Str.ofString "not") ∧ (Str.ofString "other" ≠ Str.ofString "true") ∧ (Str.ofString "other" ≠ Str.ofString "and") ∧ (Str.ofString "other" ≠ Str.ofString "or") ∧ (Str.ofString "other" ≠ Str.ofString "rows") ∧ (Str.ofString "other" ≠ Str.ofString "keep") ∧ (Str.ofString "other" ≠ Str.ofString "pick") ∧ (Str.ofString "other" ≠ Str.ofString "join") ∧ (Str.ofString "other" ≠ Str.ofString "both") ∧ (Str.ofString "other" ≠ Str.ofString "without") ∧ (Str.ofString "other" ≠ Str.ofString "sure") ∧ (Str.ofString "other" ≠ Str.ofString "maybe") ∧ (Str.ofString "other" ≠ Str.ofString "cell") ∧ (Str.ofString "other" ≠ Str.ofString "eq") ∧ (Str.ofString "other" ≠ Str.ofString "lt") ∧ (Str.ofString "other" ≠ Str.ofString "no") ∧ (Str.ofString "other" ≠ Str.ofString "all") ∧ (Str.ofString "other" ≠ Str.ofString "any") ∧ (Str.ofString "other" ≠ Str.ofString "pair") ∧ (Str.ofString "other" ≠ Str.ofString "missing") ∧ (Str.ofString "other" ≠ Str.ofString "tables") ∧ (Str.ofString "other" ≠ Str.ofString "sentence") ∧ (Str.ofString "other" ≠ Str.ofString "column") ∧ (Str.ofString "other" ≠ Str.ofString "top") ∧ (Str.ofString "other" ≠ Str.ofString "many") ∧ (Str.ofString "other" ≠ Str.ofString "text") ∧ (Str.ofString "other" ≠ Str.ofString "met") ∧ (Str.ofString "other" ≠ Str.ofString "another") := by decide +kernel
@[simp] theorem wa35 : ((Str.ofString "met" == Str.ofString "gap") = false) ∧ ((Str.ofString "met" == Str.ofString "col") = false) ∧ ((Str.ofString "met" == Str.ofString "num") = false) ∧ ((Str.ofString "met" == Str.ofString "plus") = false) ∧ ((Str.ofString "met" == Str.ofString "take") = false) ∧ ((Str.ofString "met" == Str.ofString "is") = false) ∧ ((Str.ofString "met" == Str.ofString "less") = false) ∧ ((Str.ofString "met" == Str.ofString "lacks") = false) ∧ ((Str.ofString "met" == Str.ofString "not") = false) ∧ ((Str.ofString "met" == Str.ofString "true") = false) ∧ ((Str.ofString "met" == Str.ofString "and") = false) ∧ ((Str.ofString "met" == Str.ofString "or") = false) ∧ ((Str.ofString "met" == Str.ofString "rows") = false) ∧ ((Str.ofString "met" == Str.ofString "keep") = false) ∧ ((Str.ofString "met" == Str.ofString "pick") = false) ∧ ((Str.ofString "met" == Str.ofString "join") = false) ∧ ((Str.ofString "met" == Str.ofString "both") = false) ∧ ((Str.ofString "met" == Str.ofString "without") = false) ∧ ((Str.ofString "met" == Str.ofString "sure") = false) ∧ ((Str.ofString "met" == Str.ofString "maybe") = false) ∧ ((Str.ofString "met" == Str.ofString "cell") = false) ∧ ((Str.ofString "met" == Str.ofString "eq") = false) ∧ ((Str.ofString "met" == Str.ofString "lt") = false) ∧ ((Str.ofString "met" == Str.ofString "no") = false) ∧ ((Str.ofString "met" == Str.ofString "all") = false) ∧ ((Str.ofString "met" == Str.ofString "any") = false) ∧ ((Str.ofString "met" == Str.ofString "pair") = false) ∧ ((Str.ofString "met" == Str.ofString "missing") = false) ∧ ((Str.ofString "met" == Str.ofString "tables") = false) ∧ ((Str.ofString "met" == Str.ofString "sentence") = false) ∧ ((Str.ofString "met" == Str.ofString "column") = false) ∧ ((Str.ofString "met" == Str.ofString "top") = false) ∧ ((Str.ofString "met" == Str.ofString "many") = false) ∧ ((Str.ofString "met" == Str.ofString "text") = false) ∧ ((Str.ofString "met" == Str.ofString "other") = false) ∧ ((Str.ofString "met" == Str.ofString "another") = false) := by decide +kernel
@[simp] theorem wb35 : (Str.ofString "met" ≠ Str.ofString "gap") ∧ (Str.ofString "met" ≠ Str.ofString "col") ∧ (Str.ofString "met" ≠ Str.ofString "num") ∧ (Str.ofString "met" ≠ Str.ofString "plus") ∧ (Str.ofString "met" ≠ Str.ofString "take") ∧ (Str.ofString "met" ≠ Str.ofString "is") ∧ (Str.ofString "met" ≠ Str.ofString "less") ∧ (Str.ofString "met" ≠ Str.ofString "lacks") ∧ (Str.ofString "met" ≠ Str.ofString "not") ∧ (Str.ofString "met" ≠ Str.ofString "true") ∧ (Str.ofString "met" ≠ Str.ofString "and") ∧ (Str.ofString "met" ≠ Str.ofString "or") ∧ (Str.ofString "met" ≠ Str.ofString "rows") ∧ (Str.ofString "met" ≠ Str.ofString "keep") ∧ (Str.ofString "met" ≠ Str.ofString "pick") ∧ (Str.ofString "met" ≠ Str.ofString "join") ∧ (Str.ofString "met" ≠ Str.ofString "both") ∧ (Str.ofString "met" ≠ Str.ofString "without") ∧ (Str.ofString "met" ≠ Str.ofString "sure") ∧ (Str.ofString "met" ≠ Str.ofString "maybe") ∧ (Str.ofString "met" ≠ Str.ofString "cell") ∧ (Str.ofString "met" ≠ Str.ofString "eq") ∧ (Str.ofString "met" ≠ Str.ofString "lt") ∧ (Str.ofString "met" ≠ Str.ofString "no") ∧ (Str.ofString "met" ≠ Str.ofString "all") ∧ (Str.ofString "met" ≠ Str.ofString "any") ∧ (Str.ofString "met" ≠ Str.ofString "pair") ∧ (Str.ofString "met" ≠ Str.ofString "missing") ∧ (Str.ofString "met" ≠ Str.ofString "tables") ∧ (Str.ofString "met" ≠ Str.ofString "sentence") ∧ (Str.ofString "met" ≠ Str.ofString "column") ∧ (Str.ofString "met" ≠ Str.ofString "top") ∧ (Str.ofString "met" ≠ Str.ofString "many") ∧ (Str.ofString "met" ≠ Str.ofString "text") ∧ (Str.ofString "met" ≠ Str.ofString "other") ∧ (Str.ofString "met" ≠ Str.ofString "another") := by decide +kernel
@[simp] theorem wa36 : ((Str.ofString "another" == Str.ofString "gap") = false) ∧ ((Str.ofString "another" == Str.ofString "col") = false) ∧ ((Str.ofString "another" == Str.ofString "num") = false) ∧ ((Str.ofString "another" == Str.ofString "plus") = false) ∧ ((Str.ofString "another" == Str.ofString "take") = false) ∧ ((Str.ofString "another" == Str.ofString "is") = false) ∧ ((Str.ofString "another" == Str.ofString "less") = false) ∧ ((Str.ofString "another" == Str.ofString "lacks") = false) ∧ ((Str.ofString "another" == Str.ofString "not") = false) ∧ ((Str.ofString "another" == Str.ofString "true") = false) ∧ ((Str.ofString "another" == Str.ofString "and") = false) ∧ ((Str.ofString "another" == Str.ofString "or") = false) ∧ ((Str.ofString "another" == Str.ofString "rows") = false) ∧ ((Str.ofString "another" == Str.ofString "keep") = false) ∧ ((Str.ofString "another" == Str.ofString "pick") = false) ∧ ((Str.ofString "another" == Str.ofString "join") = false) ∧ ((Str.ofString "another" == Str.ofString "both") = false) ∧ ((Str.ofString "another" == Str.ofString "without") = false) ∧ ((Str.ofString "another" == Str.ofString "sure") = false) ∧ ((Str.ofString "another" == Str.ofString "maybe") = false) ∧ ((Str.ofString "another" == Str.ofString "cell") = false) ∧ ((Str.ofString "another" == Str.ofString "eq") = false) ∧ ((Str.ofString "another" == Str.ofString "lt") = false) ∧ ((Str.ofString "another" == Str.ofString "no") = false) ∧ ((Str.ofString "another" == Str.ofString "all") = false) ∧ ((Str.ofString "another" == Str.ofString "any") = false) ∧ ((Str.ofString "another" == Str.ofString "pair") = false) ∧ ((Str.ofString "another" == Str.ofString "missing") = false) ∧ ((Str.ofString "another" == Str.ofString "tables") = false) ∧ ((Str.ofString "another" == Str.ofString "sentence") = false) ∧ ((Str.ofString "another" == Str.ofString "column") = false) ∧ ((Str.ofString "another" == Str.ofString "top") = false) ∧ ((Str.ofString "another" == Str.ofString "many") = false) ∧ ((Str.ofString "another" == Str.ofString "text") = false) ∧ ((Str.ofString "another" == Str.ofString "other") = false) ∧ ((Str.ofString "another" == Str.ofString "met") = false) := by decide +kernel
@[simp] theorem wb36 : (Str.ofString "another" ≠ Str.ofString "gap") ∧ (Str.ofString "another" ≠ Str.ofString "col") ∧ (Str.ofString "another" ≠ Str.ofString "num") ∧ (Str.ofString "another" ≠ Str.ofString "plus") ∧ (Str.ofString "another" ≠ Str.ofString "take") ∧ (Str.ofString "another" ≠ Str.ofString "is") ∧ (Str.ofString "another" ≠ Str.ofString "less") ∧ (Str.ofString "another" ≠ Str.ofString "lacks") ∧ (Str.ofString "another" ≠ Str.ofString "not") ∧ (Str.ofString "another" ≠ Str.ofString "true") ∧ (Str.ofString "another" ≠ Str.ofString "and") ∧ (Str.ofString "another" ≠ Str.ofString "or") ∧ (Str.ofString "another" ≠ Str.ofString "rows") ∧ (Str.ofString "another" ≠ Str.ofString "keep") ∧ (Str.ofString "another" ≠ Str.ofString "pick") ∧ (Str.ofString "another" ≠ Str.ofString "join") ∧ (Str.ofString "another" ≠ Str.ofString "both") ∧ (Str.ofString "another" ≠ Str.ofString "without") ∧ (Str.ofString "another" ≠ Str.ofString "sure") ∧ (Str.ofString "another" ≠ Str.ofString "maybe") ∧ (Str.ofString "another" ≠ Str.ofString "cell") ∧ (Str.ofString "another" ≠ Str.ofString "eq") ∧ (Str.ofString "another" ≠ Str.ofString "lt") ∧ (Str.ofString "another" ≠ Str.ofString "no") ∧ (Str.ofString "another" ≠ Str.ofString "all") ∧ (Str.ofString "another" ≠ Str.ofString "any") ∧ (Str.ofString "another" ≠ Str.ofString "pair") ∧ (Str.ofString "another" ≠ Str.ofString "missing") ∧ (Str.ofString "another" ≠ Str.ofString "tables") ∧ (Str.ofString "another" ≠ Str.ofString "sentence") ∧ (Str.ofString "another" ≠ Str.ofString "column") ∧ (Str.ofString "another" ≠ Str.ofString "top") ∧ (Str.ofString "another" ≠ Str.ofString "many") ∧ (Str.ofString "another" ≠ Str.ofString "text") ∧ (Str.ofString "another" ≠ Str.ofString "other") ∧ (Str.ofString "another" ≠ Str.ofString "met") := by decide +kernel
section
@[simp] theorem eqv_nn : PyData.eqv .none .none = true := by rw [PyData.eqv]
@[simp] theorem eqv_bb (a b : Bool) : PyData.eqv (.bool a) (.bool b) = (a == b) := by rw [PyData.eqv]
@[simp] theorem eqv_ii (a b : Int) : PyData.eqv (.int a) (.int b) = (a == b) := by rw [PyData.eqv]
@[simp] theorem eqv_ss (a b : Str) : PyData.eqv (.str a) (.str b) = (a == b) := by rw [PyData.eqv]
@[simp] theorem eqv_ll (a b : List D) : PyData.eqv (.list a) (.list b) = PyData.eqvAll a b := by rw [PyData.eqv]
@[simp] theorem eqv_tt (a b : List D) : PyData.eqv (.tuple a) (.tuple b) = PyData.eqvAll a b := by rw [PyData.eqv]
@[simp] theorem eqv_nb  (b : Bool) : PyData.eqv .none (.bool b) = false := by rw [PyData.eqv]
@[simp] theorem eqv_ni  (i : Int) : PyData.eqv .none (.int i) = false := by rw [PyData.eqv]
@[simp] theorem eqv_ns  (s : Str) : PyData.eqv .none (.str s) = false := by rw [PyData.eqv]
@[simp] theorem eqv_nl  (l : List D) : PyData.eqv .none (.list l) = false := by rw [PyData.eqv]
@[simp] theorem eqv_nt  (t : List D) : PyData.eqv .none (.tuple t) = false := by rw [PyData.eqv]
@[simp] theorem eqv_bn (b : Bool)  : PyData.eqv (.bool b) .none = false := by rw [PyData.eqv]
@[simp] theorem eqv_bs (b : Bool) (s : Str) : PyData.eqv (.bool b) (.str s) = false := by rw [PyData.eqv]
@[simp] theorem eqv_bl (b : Bool) (l : List D) : PyData.eqv (.bool b) (.list l) = false := by rw [PyData.eqv]
@[simp] theorem eqv_bt (b : Bool) (t : List D) : PyData.eqv (.bool b) (.tuple t) = false := by rw [PyData.eqv]
@[simp] theorem eqv_in (i : Int)  : PyData.eqv (.int i) .none = false := by rw [PyData.eqv]
@[simp] theorem eqv_is (i : Int) (s : Str) : PyData.eqv (.int i) (.str s) = false := by rw [PyData.eqv]
@[simp] theorem eqv_il (i : Int) (l : List D) : PyData.eqv (.int i) (.list l) = false := by rw [PyData.eqv]
@[simp] theorem eqv_it (i : Int) (t : List D) : PyData.eqv (.int i) (.tuple t) = false := by rw [PyData.eqv]
@[simp] theorem eqv_sn (s : Str)  : PyData.eqv (.str s) .none = false := by rw [PyData.eqv]
@[simp] theorem eqv_sb (s : Str) (b : Bool) : PyData.eqv (.str s) (.bool b) = false := by rw [PyData.eqv]
@[simp] theorem eqv_si (s : Str) (i : Int) : PyData.eqv (.str s) (.int i) = false := by rw [PyData.eqv]
@[simp] theorem eqv_sl (s : Str) (l : List D) : PyData.eqv (.str s) (.list l) = false := by rw [PyData.eqv]
@[simp] theorem eqv_st (s : Str) (t : List D) : PyData.eqv (.str s) (.tuple t) = false := by rw [PyData.eqv]
@[simp] theorem eqv_ln (l : List D)  : PyData.eqv (.list l) .none = false := by rw [PyData.eqv]
@[simp] theorem eqv_lb (l : List D) (b : Bool) : PyData.eqv (.list l) (.bool b) = false := by rw [PyData.eqv]
@[simp] theorem eqv_li (l : List D) (i : Int) : PyData.eqv (.list l) (.int i) = false := by rw [PyData.eqv]
@[simp] theorem eqv_ls (l : List D) (s : Str) : PyData.eqv (.list l) (.str s) = false := by rw [PyData.eqv]
@[simp] theorem eqv_lt (l : List D) (t : List D) : PyData.eqv (.list l) (.tuple t) = false := by rw [PyData.eqv]
@[simp] theorem eqv_tn (t : List D)  : PyData.eqv (.tuple t) .none = false := by rw [PyData.eqv]
@[simp] theorem eqv_tb (t : List D) (b : Bool) : PyData.eqv (.tuple t) (.bool b) = false := by rw [PyData.eqv]
@[simp] theorem eqv_ti (t : List D) (i : Int) : PyData.eqv (.tuple t) (.int i) = false := by rw [PyData.eqv]
@[simp] theorem eqv_ts (t : List D) (s : Str) : PyData.eqv (.tuple t) (.str s) = false := by rw [PyData.eqv]
@[simp] theorem eqv_tl (t : List D) (l : List D) : PyData.eqv (.tuple t) (.list l) = false := by rw [PyData.eqv]
@[simp] theorem eqv_bi (b : Bool) (i : Int) : PyData.eqv (.bool b) (.int i) = ((if b then 1 else 0) == i) := by rw [PyData.eqv]
@[simp] theorem eqv_ib (b : Bool) (i : Int) : PyData.eqv (.int i) (.bool b) = (i == (if b then 1 else 0)) := by rw [PyData.eqv]
@[simp] theorem eqvA_nn : PyData.eqvAll [] [] = true := by rw [PyData.eqvAll]
@[simp] theorem eqvA_cc (x y : D) (a b : List D) : PyData.eqvAll (x :: a) (y :: b) = (PyData.eqv x y && PyData.eqvAll a b) := by rw [PyData.eqvAll]
@[simp] theorem eqvA_nc (y : D) (b : List D) : PyData.eqvAll [] (y :: b) = false := by rw [PyData.eqvAll]
@[simp] theorem eqvA_cn (y : D) (b : List D) : PyData.eqvAll (y :: b) [] = false := by rw [PyData.eqvAll]
@[simp] theorem dep_n : PyData.depth .none = 0 := by rw [PyData.depth]
@[simp] theorem dep_b (b : Bool) : PyData.depth (.bool b) = 0 := by rw [PyData.depth]
@[simp] theorem dep_i (b : Int) : PyData.depth (.int b) = 0 := by rw [PyData.depth]
@[simp] theorem dep_s (b : Str) : PyData.depth (.str b) = 0 := by rw [PyData.depth]
@[simp] theorem dep_l (b : List D) : PyData.depth (.list b) = PyData.depthAll b + 1 := by rw [PyData.depth]
@[simp] theorem dep_t (b : List D) : PyData.depth (.tuple b) = PyData.depthAll b + 1 := by rw [PyData.depth]
@[simp] theorem depA_n : PyData.depthAll [] = 0 := by rw [PyData.depthAll]
@[simp] theorem depA_c (x : D) (l : List D) : PyData.depthAll (x :: l) = max x.depth (PyData.depthAll l) := by rw [PyData.depthAll]
@[simp] theorem lookup_nil' {α β : Type} [BEq α] (a : α) : List.lookup a ([] : List (α × β)) = none := rfl
@[simp] theorem lookup_cons' {α β : Type} [BEq α] (a k : α) (b : β) (es : List (α × β)) : List.lookup a ((k, b) :: es) = match a == k with | true => some b | false => List.lookup a es := rfl
@[simp] theorem atI_eq {α : Type} (xs : List α) (i : Int) : atI xs i = (ixN xs.length i).bind fun j => xs[j]? := rfl
@[simp] theorem ixN_eq (n : Nat) (i : Int) : ixN n i = if 0 ≤ i then (if i < n then some i.toNat else none) else if -(n : Int) ≤ i then some (i + n).toNat else none := rfl
end
theorem ss_nx {md : Md} {a : So} {l : SoL} {s s' : S} (h : denS md a s = .ok .nx s') : denSs md (.cons a l) s = denSs md l s' := by
  rw [Sp.denSs_cons]
  show (denS md a s).bind _ = _
  rw [h]
  rfl
theorem ss_ret {md : Md} {a : So} {l : SoL} {s s' : S} {r : Vl} (h : denS md a s = .ok (.ret r) s') : denSs md (.cons a l) s = .ok (.ret r) s' := by
  rw [Sp.denSs_cons]
  show (denS md a s).bind _ = _
  rw [h]
  rfl
theorem run_ret {md : Md} {d : Df} {args : List Vl} {m : List Cell} {e : List Sl} {r : Vl} {s : S} (hl : args.length = d.np) (he : args.map argSl ++ List.replicate (d.ns - d.np) .un = e) (h : denSs md d.body ⟨e, m⟩ = .ok (.ret r) s) : runD md d args m = .ok r ⟨[], s.mem⟩ := by
  unfold runD
  rw [if_pos hl, he, h]
theorem fl_inv {tg : Tg} {body : Mo Fl} {ds : List D} (R : S → Prop) (h : ∀ d ∈ ds, ∀ s, R s → ∃ e s', tgSet tg d s.env = some e ∧ body { s with env := e } = .ok .nx s' ∧ R s') : ∀ s, R s → ∃ s', fLoop tg body ds s = .ok .nx s' ∧ R s' := by
  induction ds with
  | nil => intro s hs; exact ⟨s, rfl, hs⟩
  | cons d ds ih =>
    intro s hs
    obtain ⟨e, s1, h1, h2, h3⟩ := h d List.mem_cons_self s hs
    obtain ⟨s2, h4, h5⟩ := ih (fun d hd => h d (List.mem_cons_of_mem _ hd)) s1 h3
    refine ⟨s2, ?_, h5⟩
    unfold fLoop
    rw [h1]
    show (body ⟨e, s.mem⟩).bind _ = _
    rw [h2]
    exact h4
theorem fl_fold {α : Type} {tg : Tg} {body : Mo Fl} (step : α → D → α) (R : α → S → Prop) : ∀ (ds : List D) (h : ∀ d ∈ ds, ∀ a s, R a s → ∃ e s', tgSet tg d s.env = some e ∧ body { s with env := e } = .ok .nx s' ∧ R (step a d) s') (a : α) (s : S), R a s → ∃ s', fLoop tg body ds s = .ok .nx s' ∧ R (ds.foldl step a) s' := by
  intro ds
  induction ds with
  | nil => intro h a s hs; exact ⟨s, rfl, hs⟩
  | cons d ds ih =>
    intro h a s hs
    obtain ⟨e, s1, h1, h2, h3⟩ := h d List.mem_cons_self a s hs
    obtain ⟨s2, h4, h5⟩ := ih (fun d hd => h d (List.mem_cons_of_mem _ hd)) _ s1 h3
    refine ⟨s2, ?_, h5⟩
    unfold fLoop
    rw [h1]
    show (body ⟨e, s.mem⟩).bind _ = _
    rw [h2]
    exact h4
theorem cl_draw {tg : Tg} {m : Mo Vl} {vs : List Nat} {β : Type} (f : β → D) (P : β → Prop) (R : S → Prop) : ∀ (ds : List D) (h : ∀ d ∈ ds, ∀ s, R s → ∃ e r y s', tgSet tg d s.env = some e ∧ m ⟨e, s.mem⟩ = .ok r s' ∧ asD r = some (f y) ∧ P y ∧ R { s' with env := wipeE s'.env vs }) (acc : List D) (s : S), R s → ∃ (ys : List β) (s' : S), cLoop tg (pur true) m vs ds acc s = .ok (acc ++ ys.map f) s' ∧ ys.length = ds.length ∧ (∀ y ∈ ys, P y) ∧ R s' := by
  intro ds
  induction ds with
  | nil => intro h acc s hs; exact ⟨[], s, by simp [cLoop], rfl, (fun y hy => absurd hy (List.not_mem_nil)), hs⟩
  | cons d ds ih =>
    intro h acc s hs
    obtain ⟨e, r, y, s1, h1, h2, h3, h4, h5⟩ := h d List.mem_cons_self s hs
    obtain ⟨ys, s2, h6, h7, h8, h9⟩ := ih (fun d hd => h d (List.mem_cons_of_mem _ hd)) (acc ++ [f y]) _ h5
    refine ⟨y :: ys, s2, ?_, by simp [h7], fun z hz => ?_, h9⟩
    · unfold cLoop
      rw [h1]
      show (m ⟨e, s.mem⟩).bind _ = _
      rw [h2]
      show (match asD r with | some y => _ | none => _) = _
      rw [h3]
      show cLoop tg (pur true) m vs ds (acc ++ [f y]) _ = _
      rw [h6]
      simp
    · rcases List.mem_cons.mp hz with rfl | hz
      · exact h4
      · exact h8 z hz
theorem cl_map {tg : Tg} {m : Mo Vl} {vs : List Nat} {β : Type} (g : β → D) (f : β → D) (E : List Sl) (M : List Cell) : ∀ (xs : List β) (h : ∀ x ∈ xs, ∃ e r e', tgSet tg (g x) E = some e ∧ m ⟨e, M⟩ = .ok r ⟨e', M⟩ ∧ asD r = some (f x) ∧ wipeE e' vs = E) (acc : List D), cLoop tg (pur true) m vs (xs.map g) acc ⟨E, M⟩ = .ok (acc ++ xs.map f) ⟨E, M⟩ := by
  intro xs
  induction xs with
  | nil => intro h acc; simp [cLoop]
  | cons x xs ih =>
    intro h acc
    obtain ⟨e, r, e', h1, h2, h3, h4⟩ := h x List.mem_cons_self
    have h6 := ih (fun d hd => h d (List.mem_cons_of_mem _ hd)) (acc ++ [f x])
    rw [List.map_cons]
    unfold cLoop
    rw [h1]
    show (m ⟨e, M⟩).bind _ = _
    rw [h2]
    show (match asD r with | some y => _ | none => _) = _
    rw [h3]
    show cLoop tg (pur true) m vs _ (acc ++ [f x]) ⟨wipeE e' vs, M⟩ = _
    rw [h4, h6]
    simp
theorem cl_filt {tg : Tg} {t : Mo Bool} {m : Mo Vl} {vs : List Nat} {β : Type} (g : β → D) (p : β → Bool) (f : β → D) (E : List Sl) (M : List Cell) : ∀ (xs : List β) (h : ∀ x ∈ xs, ∃ e e1, tgSet tg (g x) E = some e ∧ t ⟨e, M⟩ = .ok (p x) ⟨e1, M⟩ ∧ (p x = false → wipeE e1 vs = E) ∧ (p x = true → ∃ r e', m ⟨e1, M⟩ = .ok r ⟨e', M⟩ ∧ asD r = some (f x) ∧ wipeE e' vs = E)) (acc : List D), cLoop tg t m vs (xs.map g) acc ⟨E, M⟩ = .ok (acc ++ (xs.filter p).map f) ⟨E, M⟩ := by
  intro xs
  induction xs with
  | nil => intro h acc; simp [cLoop]
  | cons x xs ih =>
    intro h acc
    obtain ⟨e, e1, h1, h2, h3, h4⟩ := h x List.mem_cons_self
    have h6 := fun acc => ih (fun d hd => h d (List.mem_cons_of_mem _ hd)) acc
    rw [List.map_cons]
    unfold cLoop
    rw [h1]
    show (t ⟨e, M⟩).bind _ = _
    rw [h2]
    show (if p x = true then _ else _) = _
    cases hp : p x with
    | false =>
      rw [if_neg (by simp)]
      show cLoop tg t m vs _ acc ⟨wipeE e1 vs, M⟩ = _
      rw [h3 hp, h6, List.filter_cons_of_neg (by simp [hp])]
    | true =>
      rw [if_pos rfl]
      obtain ⟨r, e', h7, h8, h9⟩ := h4 hp
      show (m ⟨e1, M⟩).bind _ = _
      rw [h7]
      show (match asD r with | some y => _ | none => _) = _
      rw [h8]
      show cLoop tg t m vs _ (acc ++ [f x]) ⟨wipeE e' vs, M⟩ = _
      rw [h9, h6, List.filter_cons_of_pos hp]
      simp
theorem fl_I {tg : Tg} {body : Mo Fl} {N : Nat} (R : Nat → S → Prop) : ∀ (ds : List D) (h : ∀ i < N, ∀ d ∈ ds, ∀ s, R i s → ∃ e s', tgSet tg d s.env = some e ∧ body { s with env := e } = .ok .nx s' ∧ R (i + 1) s') (i : Nat) (s : S), i + ds.length = N → R i s → ∃ s', fLoop tg body ds s = .ok .nx s' ∧ R N s' := by
  intro ds
  induction ds with
  | nil => intro h i s hi hs; simp at hi; subst hi; exact ⟨s, rfl, hs⟩
  | cons d ds ih =>
    intro h i s hi hs
    simp at hi
    obtain ⟨e, s1, h1, h2, h3⟩ := h i (by omega) d List.mem_cons_self s hs
    obtain ⟨s2, h4, h5⟩ := ih (fun i hi d hd => h i hi d (List.mem_cons_of_mem _ hd)) (i + 1) s1 (by omega) h3
    refine ⟨s2, ?_, h5⟩
    unfold fLoop
    rw [h1]
    show (body ⟨e, s.mem⟩).bind _ = _
    rw [h2]
    exact h4
theorem cl_I {tg : Tg} {m : Mo Vl} {vs : List Nat} {β : Type} {N : Nat} (f : β → D) (P : β → Prop) (R : Nat → S → Prop) : ∀ (ds : List D) (h : ∀ i < N, ∀ d ∈ ds, ∀ s, R i s → ∃ e r y s', tgSet tg d s.env = some e ∧ m ⟨e, s.mem⟩ = .ok r s' ∧ asD r = some (f y) ∧ P y ∧ R (i + 1) { s' with env := wipeE s'.env vs }) (acc : List D) (i : Nat) (s : S), i + ds.length = N → R i s → ∃ (ys : List β) (s' : S), cLoop tg (pur true) m vs ds acc s = .ok (acc ++ ys.map f) s' ∧ ys.length = ds.length ∧ (∀ y ∈ ys, P y) ∧ R N s' := by
  intro ds
  induction ds with
  | nil => intro h acc i s hi hs; simp at hi; subst hi; exact ⟨[], s, by simp [cLoop], rfl, (fun y hy => absurd hy (List.not_mem_nil)), hs⟩
  | cons d ds ih =>
    intro h acc i s hi hs
    simp at hi
    obtain ⟨e, r, y, s1, h1, h2, h3, h4, h5⟩ := h i (by omega) d List.mem_cons_self s hs
    obtain ⟨ys, s2, h6, h7, h8, h9⟩ := ih (fun i hi d hd => h i hi d (List.mem_cons_of_mem _ hd)) (acc ++ [f y]) (i + 1) _ (by omega) h5
    refine ⟨y :: ys, s2, ?_, by simp [h7], fun z hz => ?_, h9⟩
    · unfold cLoop
      rw [h1]
      show (m ⟨e, s.mem⟩).bind _ = _
      rw [h2]
      show (match asD r with | some y => _ | none => _) = _
      rw [h3]
      show cLoop tg (pur true) m vs ds (acc ++ [f y]) _ = _
      rw [h6]
      simp
    · rcases List.mem_cons.mp hz with rfl | hz
      · exact h4
      · exact h8 z hz
theorem cl2_map {tg tg1 : Tg} {mi1 : Mo (List D)} {m : Mo Vl} {vs vs1 : List Nat} {β : Type} (g : β → D) (f : β → List D) (E : List Sl) (M : List Cell) : ∀ (xs : List β) (h : ∀ x ∈ xs, ∃ e ds1 e1, tgSet tg (g x) E = some e ∧ mi1 ⟨e, M⟩ = .ok ds1 ⟨e1, M⟩ ∧ ds1.length = (f x).length ∧ ∀ acc, ∃ e2, cLoop tg1 (pur true) m vs1 ds1 acc ⟨wipeE e1 vs1, M⟩ = .ok (acc ++ f x) ⟨e2, M⟩ ∧ wipeE e2 vs = E) (acc : List D), acc.length + (xs.flatMap f).length ≤ 1000000 → cLoop2 tg mi1 tg1 m vs vs1 (xs.map g) acc ⟨E, M⟩ = .ok (acc ++ xs.flatMap f) ⟨E, M⟩ := by
  intro xs
  induction xs with
  | nil => intro h acc _; simp [cLoop2]
  | cons x xs ih =>
    intro h acc hl
    obtain ⟨e, ds1, e1, h1, h2, h3, h4⟩ := h x List.mem_cons_self
    obtain ⟨e2, h5, h6⟩ := h4 acc
    rw [List.flatMap_cons, List.length_append] at hl
    have h7 := ih (fun d hd => h d (List.mem_cons_of_mem _ hd)) (acc ++ f x) (by rw [List.length_append]; omega)
    rw [List.map_cons]
    unfold cLoop2
    rw [h1]
    show (mi1 ⟨e, M⟩).bind _ = _
    rw [h2]
    show (if acc.length + ds1.length ≤ lim then _ else _) = _
    rw [if_pos (show acc.length + ds1.length ≤ 1000000 by omega)]
    show (cLoop tg1 (pur true) m vs1 ds1 acc ⟨wipeE e1 vs1, M⟩).bind _ = _
    rw [h5]
    show cLoop2 tg mi1 tg1 m vs vs1 (xs.map g) (acc ++ f x) ⟨wipeE e2 vs, M⟩ = _
    rw [h6, h7, List.flatMap_cons, List.append_assoc]
theorem fl_find {tg : Tg} {body : Mo Fl} {β : Type} (g : β → D) (p : β → Bool) (v : β → Vl) (R : S → Prop) : ∀ (xs : List β) (h : ∀ x ∈ xs, ∀ s, R s → ∃ e, tgSet tg (g x) s.env = some e ∧ (p x = true → ∃ s', body { s with env := e } = .ok (.ret (v x)) s' ∧ R s') ∧ (p x = false → ∃ s', body { s with env := e } = .ok .nx s' ∧ R s')) (s : S), R s → ∃ s', R s' ∧ fLoop tg body (xs.map g) s = .ok (match xs.find? p with | some x => .ret (v x) | none => .nx) s' := by
  intro xs
  induction xs with
  | nil => intro h s hs; exact ⟨s, hs, rfl⟩
  | cons x xs ih =>
    intro h s hs
    obtain ⟨e, h1, h2, h3⟩ := h x List.mem_cons_self s hs
    rw [List.map_cons]
    cases hp : p x with
    | true =>
      obtain ⟨s', h4, h5⟩ := h2 hp
      refine ⟨s', h5, ?_⟩
      rw [List.find?_cons_of_pos hp]
      unfold fLoop
      rw [h1]
      show (body ⟨e, s.mem⟩).bind _ = _
      rw [h4]
      rfl
    | false =>
      obtain ⟨s', h4, h5⟩ := h3 hp
      obtain ⟨s2, h6, h7⟩ := ih (fun d hd => h d (List.mem_cons_of_mem _ hd)) s' h5
      refine ⟨s2, h6, ?_⟩
      rw [List.find?_cons_of_neg (by simp [hp])]
      unfold fLoop
      rw [h1]
      show (body ⟨e, s.mem⟩).bind _ = _
      rw [h4]
      exact h7
theorem rgD_map (a b : Int) : rgD a b = (List.range (b - a).toNat).map fun i => PyData.int (a + (i : Nat)) := rfl
@[simp] theorem rgD_len' (a b : Int) : (rgD a b).length = (b - a).toNat := by simp [rgD]
end Gq
end

section
namespace Gq
open PySem PySem.Spec L2
variable {T : Tb}
section
variable [CNum T]
def isNum : D → Bool | .int _ => true | _ => false
@[simp] theorem isNum0 (l : List D) : isNum (.tuple l) = false := rfl
@[simp] theorem isNum1 (i : Int) : isNum (.int i) = true := rfl
theorem is_number_ok (n : Nat) (m : List Cell) (d : D) : (mdOf T (n+1)).fns "is_number" [.dat d] m = .ok (.dat (.bool (isNum d))) ⟨[], m⟩ := by
  rw [fns_is_number]
  cases d <;> rfl
theorem is_within_ok (n : Nat) (m : List Cell) (i a b : Int) : (mdOf T (n+2)).fns "is_within" [.dat (.int i), .dat (.int a), .dat (.int b)] m = .ok (.dat (.bool (decide (a ≤ i) && decide (i ≤ b)))) ⟨[], m⟩ := by
  rw [fns_is_within]
  by_cases h : a ≤ i <;> simp [d_is_within, is_number_ok, h]
theorem is_within_no (n : Nat) (m : List Cell) (d : D) (a b : Int) (h : isNum d = false) : (mdOf T (n+2)).fns "is_within" [.dat d, .dat (.int a), .dat (.int b)] m = .ok (.dat (.bool false)) ⟨[], m⟩ := by
  rw [fns_is_within]
  simp [d_is_within, is_number_ok, h]
theorem is_within_tup (n : Nat) (m : List Cell) (l : List D) (a b : Int) : (mdOf T (n+2)).fns "is_within" [.dat (.tuple l), .dat (.int a), .dat (.int b)] m = .ok (.dat (.bool false)) ⟨[], m⟩ := is_within_no n m _ a b rfl
end
section
variable [CRow T]
theorem is_gap_ok (n : Nat) (m : List Cell) (i : Int) (h : 0 ≤ i ∧ i ≤ 9) : (mdOf T (n+3)).fns "is_gap" [.dat (.tuple [.str "gap", .int i])] m = .ok (.dat (.bool true)) ⟨[], m⟩ := by
  rw [fns_is_gap]
  simp [d_is_gap, is_within_ok, h]
theorem is_cell_num (n : Nat) (m : List Cell) (i : Int) (h : 0 ≤ i ∧ i ≤ 99) : (mdOf T (n+4)).fns "is_cell" [.dat (.int i)] m = .ok (.dat (.bool true)) ⟨[], m⟩ := by
  rw [fns_is_cell]
  simp [d_is_cell, is_within_ok, h]
theorem is_cell_gap (n : Nat) (m : List Cell) (i : Int) (h : 0 ≤ i ∧ i ≤ 9) : (mdOf T (n+4)).fns "is_cell" [.dat (.tuple [.str "gap", .int i])] m = .ok (.dat (.bool true)) ⟨[], m⟩ := by
  rw [fns_is_cell]
  simp [d_is_cell, is_within_tup, is_gap_ok, h]
inductive Cl where | num (i : Int) | gap (i : Int)
def Cl.d : Cl → D | .num i => .int i | .gap i => .tuple [.str "gap", .int i]
def Cl.ok : Cl → Prop | .num i => 0 ≤ i ∧ i ≤ 99 | .gap i => 0 ≤ i ∧ i ≤ 9
theorem is_cell_ok (n : Nat) (m : List Cell) (c : Cl) (h : c.ok) : (mdOf T (n+4)).fns "is_cell" [.dat c.d] m = .ok (.dat (.bool true)) ⟨[], m⟩ := by
  cases c with
  | num i => exact is_cell_num n m i h
  | gap i => exact is_cell_gap n m i h
theorem is_row_ok (n : Nat) (m : List Cell) (cs : List Cl) (h : ∀ c ∈ cs, c.ok) : (mdOf T (n+5)).fns "is_row" [.dat (.tuple (cs.map Cl.d)), .dat (.int cs.length)] m = .ok (.dat (.bool true)) ⟨[], m⟩ := by
  rw [fns_is_row]
  have key : ∀ (l : List Cl) (e : List Sl), (∀ c ∈ l, c.ok) → allLoop (den (mdOf T (n+4)) (.cal "is_cell" (.cons (.var 0) .nil))) (l.map Cl.d) ⟨e, m⟩ = .ok (.dat (.bool true)) ⟨e, m⟩ := by
    intro l e hl
    induction l with
    | nil => rfl
    | cons c l ih =>
      have h1 := is_cell_ok (T := T) n m c (hl c List.mem_cons_self)
      have h2 := ih fun c hc => hl c (List.mem_cons_of_mem _ hc)
      simp only [List.map_cons, allLoop]
      simp [h1]
      simpa using h2
  have k2 := key cs [.dat (.tuple (cs.map Cl.d)), .dat (.int cs.length)] h
  simp at k2
  simp [d_is_row, allV, k2]
end
section
variable [CCkRow T]
theorem check_row_ok (n : Nat) (m : List Cell) (cs : List Cl) (h : ∀ c ∈ cs, c.ok) (h1 : 1 ≤ cs.length) (h8 : cs.length ≤ 8) : (mdOf T (n+6)).fns "check_row" [.dat (.tuple (cs.map Cl.d))] m = .ok (.dat .none) ⟨[], m⟩ := by
  rw [fns_check_row]
  have a1 : (1 : Int) ≤ cs.length := by omega
  have a2 : (cs.length : Int) ≤ 8 := by omega
  simp [d_check_row, is_row_ok _ _ _ h, a1, a2]
end
section
variable [CLookC T]
inductive Pt where | col (i : Nat) | num (i : Int) | plus (a b : Pt) | take (a b : Pt)
def Pt.d : Pt → D
  | .col i => .tuple [.str "col", .int i] | .num i => .tuple [.str "num", .int i] | .plus a b => .tuple [.str "plus", a.d, b.d] | .take a b => .tuple [.str "take", a.d, b.d]
def Pt.ok (w : Nat) : Pt → Prop
  | .col i => i < w | .num i => 0 ≤ i ∧ i ≤ 99 | .plus a b => a.ok w ∧ b.ok w | .take a b => a.ok w ∧ b.ok w
def Pt.deep : Pt → Nat
  | .col _ => 0 | .num _ => 0 | .plus a b => max a.deep b.deep + 1 | .take a b => max a.deep b.deep + 1
def Pt.size : Pt → Nat
  | .col _ => 1 | .num _ => 1 | .plus a b => a.size + b.size + 1 | .take a b => a.size + b.size + 1
abbrev PARTS : D := .tuple [.tuple [.str "col", .int 1], .tuple [.str "num", .int 1], .tuple [.str "plus", .int 2], .tuple [.str "take", .int 2]]
theorem shape_col (n : Nat) (m : List Cell) (x : D) : (mdOf T (n+1)).fns "has_shape" [.dat (.tuple [.str "col", x]), .dat PARTS] m = .ok (.dat (.bool true)) ⟨[], m⟩ := by
  rw [fns_has_shape]
  simp [d_has_shape]
theorem shape_num (n : Nat) (m : List Cell) (x : D) : (mdOf T (n+1)).fns "has_shape" [.dat (.tuple [.str "num", x]), .dat PARTS] m = .ok (.dat (.bool true)) ⟨[], m⟩ := by
  rw [fns_has_shape]
  simp [d_has_shape]
theorem shape_plus (n : Nat) (m : List Cell) (x y : D) : (mdOf T (n+1)).fns "has_shape" [.dat (.tuple [.str "plus", x, y]), .dat PARTS] m = .ok (.dat (.bool true)) ⟨[], m⟩ := by
  rw [fns_has_shape]
  simp [d_has_shape]
theorem shape_take (n : Nat) (m : List Cell) (x y : D) : (mdOf T (n+1)).fns "has_shape" [.dat (.tuple [.str "take", x, y]), .dat PARTS] m = .ok (.dat (.bool true)) ⟨[], m⟩ := by
  rw [fns_has_shape]
  simp [d_has_shape]
def tally (k : Int) : Cell := .ins "Tally" [("met", .int k)]
theorem another_ok (n : Nat) (m : List Cell) (h : Nat) (k : Int) (hm : m[h]? = some (tally k)) (hk : k < 60) : (mdOf T (n+1)).mts "Tally" "another" [.hnd h] m = .ok (.dat (.int k)) ⟨[], m.set h (tally (k + 1))⟩ := by
  rw [fns_Tally_another]
  have hm' : m[h]? = some (.ins "Tally" [("met", .int k)]) := hm
  have h2 : ¬ (60 ≤ k) := by omega
  simp [d_Tally_another, hm', h2, tally]
theorem look_part (p : Pt) : ∀ (k : Nat) (m : List Cell) (h : Nat) (w : Nat) (c : Int), p.deep ≤ k → m[h]? = some (tally c) → c + p.size ≤ 60 → p.ok w → (mdOf T (k+5)).fns "look_at_part" [.dat p.d, .dat (.int w), .hnd h] m = .ok (.dat .none) ⟨[], m.set h (tally (c + p.size))⟩ := by
  induction p with
  | col i =>
    intro k m h w c hk hm hc ho
    have hm' : m[h]? = some (.ins "Tally" [("met", .int c)]) := hm
    have hc' : c < 60 := by simp [Pt.size] at hc; omega
    have ho' : (i : Int) < w := by have : i < w := ho; omega
    rw [fns_look_at_part]
    simp [d_look_at_part, Pt.d, hm', another_ok _ _ _ _ hm hc', shape_col, is_number_ok, ho', Pt.size]
  | num i =>
    intro k m h w c hk hm hc ho
    have hm' : m[h]? = some (.ins "Tally" [("met", .int c)]) := hm
    have hc' : c < 60 := by simp [Pt.size] at hc; omega
    rw [fns_look_at_part]
    simp [d_look_at_part, Pt.d, hm', another_ok _ _ _ _ hm hc', shape_num, is_number_ok, is_within_ok, ho.1, ho.2, Pt.size]
  | plus a b iha ihb =>
    intro k m h w c hk hm hc ho
    have hm' : m[h]? = some (.ins "Tally" [("met", .int c)]) := hm
    have hs : (Pt.plus a b).size = a.size + b.size + 1 := rfl
    have hd : (Pt.plus a b).deep = max a.deep b.deep + 1 := rfl
    rw [hs] at hc ⊢
    rw [hd] at hk
    have hc' : c < 60 := by omega
    obtain ⟨k, rfl⟩ : ∃ j, k = j + 1 := ⟨k - 1, by omega⟩
    have hl : h < m.length := (List.getElem?_eq_some_iff.mp hm).1
    have e1 := iha k (m.set h (tally (c + 1))) h w (c + 1) (by omega) (by rw [List.getElem?_set_self hl]) (by omega) ho.1
    have e2 := ihb k (m.set h (tally (c + 1 + a.size))) h w (c + 1 + a.size) (by omega) (by rw [List.getElem?_set_self hl]) (by omega) ho.2
    rw [List.set_set] at e1 e2
    rw [fns_look_at_part]
    simp [d_look_at_part, Pt.d, hm', another_ok _ _ _ _ hm hc', shape_plus, e1, e2]
    congr 2
    omega
  | take a b iha ihb =>
    intro k m h w c hk hm hc ho
    have hm' : m[h]? = some (.ins "Tally" [("met", .int c)]) := hm
    have hs : (Pt.take a b).size = a.size + b.size + 1 := rfl
    have hd : (Pt.take a b).deep = max a.deep b.deep + 1 := rfl
    rw [hs] at hc ⊢
    rw [hd] at hk
    have hc' : c < 60 := by omega
    obtain ⟨k, rfl⟩ : ∃ j, k = j + 1 := ⟨k - 1, by omega⟩
    have hl : h < m.length := (List.getElem?_eq_some_iff.mp hm).1
    have e1 := iha k (m.set h (tally (c + 1))) h w (c + 1) (by omega) (by rw [List.getElem?_set_self hl]) (by omega) ho.1
    have e2 := ihb k (m.set h (tally (c + 1 + a.size))) h w (c + 1 + a.size) (by omega) (by rw [List.getElem?_set_self hl]) (by omega) ho.2
    rw [List.set_set] at e1 e2
    rw [fns_look_at_part]
    simp [d_look_at_part, Pt.d, hm', another_ok _ _ _ _ hm hc', shape_take, e1, e2]
    congr 2
    omega
inductive Cd where | is (a b : Pt) | less (a b : Pt) | lacks (a : Pt) | not (x : Cd) | tru (x : Cd) | and (x y : Cd) | or (x y : Cd)
def Cd.d : Cd → D
  | .is a b => .tuple [.str "is", a.d, b.d] | .less a b => .tuple [.str "less", a.d, b.d] | .lacks a => .tuple [.str "lacks", a.d]
  | .not x => .tuple [.str "not", x.d] | .tru x => .tuple [.str "true", x.d] | .and x y => .tuple [.str "and", x.d, y.d] | .or x y => .tuple [.str "or", x.d, y.d]
def Cd.ok (w : Nat) : Cd → Prop
  | .is a b => a.ok w ∧ b.ok w | .less a b => a.ok w ∧ b.ok w | .lacks a => a.ok w | .not x => x.ok w | .tru x => x.ok w | .and x y => x.ok w ∧ y.ok w | .or x y => x.ok w ∧ y.ok w
def Cd.deep : Cd → Nat
  | .is a b => max a.deep b.deep + 1 | .less a b => max a.deep b.deep + 1 | .lacks a => a.deep + 1 | .not x => x.deep + 1 | .tru x => x.deep + 1 | .and x y => max x.deep y.deep + 1 | .or x y => max x.deep y.deep + 1
def Cd.size : Cd → Nat
  | .is a b => a.size + b.size + 1 | .less a b => a.size + b.size + 1 | .lacks a => a.size + 1 | .not x => x.size + 1 | .tru x => x.size + 1 | .and x y => x.size + y.size + 1 | .or x y => x.size + y.size + 1
abbrev CONDS : D := .tuple [.tuple [.str "is", .int 2], .tuple [.str "less", .int 2], .tuple [.str "lacks", .int 1], .tuple [.str "not", .int 1], .tuple [.str "true", .int 1], .tuple [.str "and", .int 2], .tuple [.str "or", .int 2]]
theorem shape_cd (n : Nat) (m : List Cell) (x : Cd) : (mdOf T (n+1)).fns "has_shape" [.dat x.d, .dat CONDS] m = .ok (.dat (.bool true)) ⟨[], m⟩ := by
  rw [fns_has_shape]
  cases x <;> simp [d_has_shape, Cd.d]
@[simp] theorem six1 : HT.sIx 2 0 (some 1) = 1 := by decide +kernel
@[simp] theorem six2 : HT.sIx 3 0 (some 1) = 1 := by decide +kernel
@[simp] theorem six3 : HT.sIx 2 2 none = 2 := by decide +kernel
@[simp] theorem six4 : HT.sIx 3 3 none = 3 := by decide +kernel
theorem look_cd (x : Cd) : ∀ (k : Nat) (m : List Cell) (h : Nat) (w : Nat) (c : Int), x.deep ≤ k → m[h]? = some (tally c) → c + x.size ≤ 60 → x.ok w → (mdOf T (k+5)).fns "look_at_condition" [.dat x.d, .dat (.int w), .hnd h] m = .ok (.dat .none) ⟨[], m.set h (tally (c + x.size))⟩ := by
  induction x with
  | is a b =>
    intro k m h w c hk hm hc ho
    have hm' : m[h]? = some (.ins "Tally" [("met", .int c)]) := hm
    have hs : (Cd.is a b).size = a.size +b.size + 1 := rfl
    have hd : (Cd.is a b).deep = max a.deep b.deep + 1 := rfl
    rw [hs] at hc ⊢
    rw [hd] at hk
    have hc' : c < 60 := by omega
    obtain ⟨k, rfl⟩ : ∃ j, k = j + 1 := ⟨k - 1, by omega⟩
    have hl : h < m.length := (List.getElem?_eq_some_iff.mp hm).1
    have e0 := shape_cd (T := T) (k + 4) (m.set h (tally (c + 1))) (.is a b)
    simp [Cd.d] at e0
    have e1 := look_part (T := T) a k (m.set h (tally (c + 1))) h w (c + 1) (by omega) (by rw [List.getElem?_set_self hl]) (by omega) ho.1
    have e2 := look_part (T := T) b k (m.set h (tally (c + 1 + a.size))) h w (c + 1 + a.size) (by omega) (by rw [List.getElem?_set_self hl]) (by omega) ho.2
    rw [List.set_set] at e1 e2
    rw [fns_look_at_condition]
    simp [d_look_at_condition, Cd.d, hm', another_ok _ _ _ _ hm hc', e0, e1, e2]
    congr 2
    omega
  | less a b =>
    intro k m h w c hk hm hc ho
    have hm' : m[h]? = some (.ins "Tally" [("met", .int c)]) := hm
    have hs : (Cd.less a b).size = a.size +b.size + 1 := rfl
    have hd : (Cd.less a b).deep = max a.deep b.deep + 1 := rfl
    rw [hs] at hc ⊢
    rw [hd] at hk
    have hc' : c < 60 := by omega
    obtain ⟨k, rfl⟩ : ∃ j, k = j + 1 := ⟨k - 1, by omega⟩
    have hl : h < m.length := (List.getElem?_eq_some_iff.mp hm).1
    have e0 := shape_cd (T := T) (k + 4) (m.set h (tally (c + 1))) (.less a b)
    simp [Cd.d] at e0
    have e1 := look_part (T := T) a k (m.set h (tally (c + 1))) h w (c + 1) (by omega) (by rw [List.getElem?_set_self hl]) (by omega) ho.1
    have e2 := look_part (T := T) b k (m.set h (tally (c + 1 + a.size))) h w (c + 1 + a.size) (by omega) (by rw [List.getElem?_set_self hl]) (by omega) ho.2
    rw [List.set_set] at e1 e2
    rw [fns_look_at_condition]
    simp [d_look_at_condition, Cd.d, hm', another_ok _ _ _ _ hm hc', e0, e1, e2]
    congr 2
    omega
  | lacks a =>
    intro k m h w c hk hm hc ho
    have hm' : m[h]? = some (.ins "Tally" [("met", .int c)]) := hm
    have hs : (Cd.lacks a).size = a.size + 1 := rfl
    have hd : (Cd.lacks a).deep = a.deep + 1 := rfl
    rw [hs] at hc ⊢
    rw [hd] at hk
    have hc' : c < 60 := by omega
    obtain ⟨k, rfl⟩ : ∃ j, k = j + 1 := ⟨k - 1, by omega⟩
    have hl : h < m.length := (List.getElem?_eq_some_iff.mp hm).1
    have e0 := shape_cd (T := T) (k + 4) (m.set h (tally (c + 1))) (.lacks a)
    simp [Cd.d] at e0
    have e1 := look_part (T := T) a k (m.set h (tally (c + 1))) h w (c + 1) (by omega) (by rw [List.getElem?_set_self hl]) (by omega) ho
    rw [List.set_set] at e1
    rw [fns_look_at_condition]
    simp [d_look_at_condition, Cd.d, hm', another_ok _ _ _ _ hm hc', e0, e1]
    congr 2
    omega
  | not x ihx =>
    intro k m h w c hk hm hc ho
    have hm' : m[h]? = some (.ins "Tally" [("met", .int c)]) := hm
    have hs : (Cd.not x).size = x.size + 1 := rfl
    have hd : (Cd.not x).deep = x.deep + 1 := rfl
    rw [hs] at hc ⊢
    rw [hd] at hk
    have hc' : c < 60 := by omega
    obtain ⟨k, rfl⟩ : ∃ j, k = j + 1 := ⟨k - 1, by omega⟩
    have hl : h < m.length := (List.getElem?_eq_some_iff.mp hm).1
    have e0 := shape_cd (T := T) (k + 4) (m.set h (tally (c + 1))) (.not x)
    simp [Cd.d] at e0
    have e1 := ihx k (m.set h (tally (c + 1))) h w (c + 1) (by omega) (by rw [List.getElem?_set_self hl]) (by omega) ho
    rw [List.set_set] at e1
    rw [fns_look_at_condition]
    simp [d_look_at_condition, Cd.d, hm', another_ok _ _ _ _ hm hc', e0, e1]
    congr 2
    omega
  | tru x ihx =>
    intro k m h w c hk hm hc ho
    have hm' : m[h]? = some (.ins "Tally" [("met", .int c)]) := hm
    have hs : (Cd.tru x).size = x.size + 1 := rfl
    have hd : (Cd.tru x).deep = x.deep + 1 := rfl
    rw [hs] at hc ⊢
    rw [hd] at hk
    have hc' : c < 60 := by omega
    obtain ⟨k, rfl⟩ : ∃ j, k = j + 1 := ⟨k - 1, by omega⟩
    have hl : h < m.length := (List.getElem?_eq_some_iff.mp hm).1
    have e0 := shape_cd (T := T) (k + 4) (m.set h (tally (c + 1))) (.tru x)
    simp [Cd.d] at e0
    have e1 := ihx k (m.set h (tally (c + 1))) h w (c + 1) (by omega) (by rw [List.getElem?_set_self hl]) (by omega) ho
    rw [List.set_set] at e1
    rw [fns_look_at_condition]
    simp [d_look_at_condition, Cd.d, hm', another_ok _ _ _ _ hm hc', e0, e1]
    congr 2
    omega
  | and x y ihx ihy =>
    intro k m h w c hk hm hc ho
    have hm' : m[h]? = some (.ins "Tally" [("met", .int c)]) := hm
    have hs : (Cd.and x y).size = x.size +y.size + 1 := rfl
    have hd : (Cd.and x y).deep = max x.deep y.deep + 1 := rfl
    rw [hs] at hc ⊢
    rw [hd] at hk
    have hc' : c < 60 := by omega
    obtain ⟨k, rfl⟩ : ∃ j, k = j + 1 := ⟨k - 1, by omega⟩
    have hl : h < m.length := (List.getElem?_eq_some_iff.mp hm).1
    have e0 := shape_cd (T := T) (k + 4) (m.set h (tally (c + 1))) (.and x y)
    simp [Cd.d] at e0
    have e1 := ihx k (m.set h (tally (c + 1))) h w (c + 1) (by omega) (by rw [List.getElem?_set_self hl]) (by omega) ho.1
    have e2 := ihy k (m.set h (tally (c + 1 + x.size))) h w (c + 1 + x.size) (by omega) (by rw [List.getElem?_set_self hl]) (by omega) ho.2
    rw [List.set_set] at e1 e2
    rw [fns_look_at_condition]
    simp [d_look_at_condition, Cd.d, hm', another_ok _ _ _ _ hm hc', e0, e1, e2]
    congr 2
    omega
  | or x y ihx ihy =>
    intro k m h w c hk hm hc ho
    have hm' : m[h]? = some (.ins "Tally" [("met", .int c)]) := hm
    have hs : (Cd.or x y).size = x.size +y.size + 1 := rfl
    have hd : (Cd.or x y).deep = max x.deep y.deep + 1 := rfl
    rw [hs] at hc ⊢
    rw [hd] at hk
    have hc' : c < 60 := by omega
    obtain ⟨k, rfl⟩ : ∃ j, k = j + 1 := ⟨k - 1, by omega⟩
    have hl : h < m.length := (List.getElem?_eq_some_iff.mp hm).1
    have e0 := shape_cd (T := T) (k + 4) (m.set h (tally (c + 1))) (.or x y)
    simp [Cd.d] at e0
    have e1 := ihx k (m.set h (tally (c + 1))) h w (c + 1) (by omega) (by rw [List.getElem?_set_self hl]) (by omega) ho.1
    have e2 := ihy k (m.set h (tally (c + 1 + x.size))) h w (c + 1 + x.size) (by omega) (by rw [List.getElem?_set_self hl]) (by omega) ho.2
    rw [List.set_set] at e1 e2
    rw [fns_look_at_condition]
    simp [d_look_at_condition, Cd.d, hm', another_ok _ _ _ _ hm hc', e0, e1, e2]
    congr 2
    omega


end
section
variable [CCkCd T]
theorem check_cd (x : Cd) (k : Nat) (m : List Cell) (w : Nat) (hk : x.deep ≤ k) (hc : x.size ≤ 60) (ho : x.ok w) : ∃ t, (mdOf T (k+6)).fns "check_condition" [.dat x.d, .dat (.int w)] m = .ok (.dat .none) ⟨[], m ++ [t]⟩ := by
  have e1 : (mdOf T (k + 5)).ini "Tally" [.hnd m.length] (m ++ [.ins "Tally" []]) = .ok (.dat .none) ⟨[], m ++ [tally 0]⟩ := by
    rw [show k + 5 = (k + 4) + 1 from rfl, fns_Tally_init]
    simp [d_Tally_init, tally]
  have e2 := look_cd (T := T) x k (m ++ [tally 0]) m.length w 0 hk (by simp) (by omega) ho
  rw [List.set_append_right _ _ (Nat.le_refl _)] at e2
  simp at e2
  refine ⟨tally x.size, ?_⟩
  rw [fns_check_condition]
  simp [d_check_condition, e1, e2]
end
section
variable [CTru T]
inductive Wv where | num (i : Int) | gap (i : Int) | unk
def Wv.d : Wv → D | .num i => .int i | .gap i => .tuple [.str "gap", .int i] | .unk => .none
def Cl.wv : Cl → Wv | .num i => .num i | .gap i => .gap i
theorem Cl.wvd (c : Cl) : c.wv.d = c.d := by cases c <;> rfl
def Wv.add : Wv → Wv → Wv | .num i, .num j => .num (i + j) | _, _ => .unk
def Wv.sub : Wv → Wv → Wv | .num i, .num j => .num (i - j) | _, _ => .unk
def Pt.val (r : List Cl) : Pt → Wv
  | .col i => match r[i]? with | some c => c.wv | none => .unk
  | .num i => .num i | .plus a b => (a.val r).add (b.val r) | .take a b => (a.val r).sub (b.val r)
def Wv.isN : Wv → Bool | .num _ => true | _ => false
theorem known_ok (n : Nat) (m : List Cell) (x y : Wv) : (mdOf T (n+1)).fns "are_known" [.dat x.d, .dat y.d] m = .ok (.dat (.bool (x.isN && y.isN))) ⟨[], m⟩ := by
  rw [fns_are_known]
  cases x <;> cases y <;> simp [d_are_known, Wv.d, Wv.isN]
theorem comes_ok (r : List Cl) (p : Pt) : ∀ (k : Nat) (m : List Cell), p.deep ≤ k → p.ok r.length → (mdOf T (k+2)).fns "comes_to" [.dat p.d, .dat (.tuple (r.map Cl.d))] m = .ok (.dat (p.val r).d) ⟨[], m⟩ := by
  induction p with
  | col i =>
    intro k m hk ho
    have hi : i < r.length := ho
    rw [fns_comes_to]
    have h2 : (i : Int) < r.length := by omega
    have h3 : r[i]? = some r[i] := List.getElem?_eq_getElem hi
    simp [d_comes_to, Pt.d, Pt.val, h2, h3, Cl.wvd]
  | num i =>
    intro k m hk ho
    rw [fns_comes_to]
    simp [d_comes_to, Pt.d, Pt.val, Wv.d]
  | plus a b iha ihb =>
    intro k m hk ho
    have hd : (Pt.plus a b).deep = max a.deep b.deep + 1 := rfl
    rw [hd] at hk
    obtain ⟨k, rfl⟩ : ∃ j, k = j + 1 := ⟨k - 1, by omega⟩
    have e1 := iha k m (by omega) ho.1
    have e2 := ihb k m (by omega) ho.2
    have e3 := known_ok (T := T) (k + 1) m (a.val r) (b.val r)
    rw [fns_comes_to]
    cases ha : a.val r <;> cases hb : b.val r <;> rw [ha, hb] at e3 <;> rw [ha] at e1 <;> rw [hb] at e2 <;> simp [Wv.d, Wv.isN] at e1 e2 e3 <;> simp [d_comes_to, Pt.d, Pt.val, e1, e2, e3, ha, hb, Wv.add, Wv.d]
  | take a b iha ihb =>
    intro k m hk ho
    have hd : (Pt.take a b).deep = max a.deep b.deep + 1 := rfl
    rw [hd] at hk
    obtain ⟨k, rfl⟩ : ∃ j, k = j + 1 := ⟨k - 1, by omega⟩
    have e1 := iha k m (by omega) ho.1
    have e2 := ihb k m (by omega) ho.2
    have e3 := known_ok (T := T) (k + 1) m (a.val r) (b.val r)
    rw [fns_comes_to]
    cases ha : a.val r <;> cases hb : b.val r <;> rw [ha, hb] at e3 <;> rw [ha] at e1 <;> rw [hb] at e2 <;> simp [Wv.d, Wv.isN] at e1 e2 e3 <;> simp [d_comes_to, Pt.d, Pt.val, e1, e2, e3, ha, hb, Wv.sub, Wv.d]


def tvD : Option Bool → D | some b => .bool b | none => .none
def Wv.same : Wv → Wv → Option Bool
  | .num i, .num j => some (decide (i = j)) | .gap i, .gap j => if i = j then some true else none | _, _ => none
def Wv.less : Wv → Wv → Option Bool
  | .num i, .num j => some (decide (i < j)) | .gap i, .gap j => if i = j then some false else none | _, _ => none
def oNot : Option Bool → Option Bool | some b => some (!b) | none => none
def oAnd : Option Bool → Option Bool → Option Bool
  | some false, _ => some false | _, some false => some false | some true, some true => some true | _, _ => none
def oOr : Option Bool → Option Bool → Option Bool
  | some true, _ => some true | _, some true => some true | some false, some false => some false | _, _ => none
def oTru : Option Bool → Option Bool | some true => some true | _ => some false
def Cd.tv (r : List Cl) : Cd → Option Bool
  | .is a b => (a.val r).same (b.val r) | .less a b => (a.val r).less (b.val r) | .lacks a => some (!(a.val r).isN)
  | .not x => oNot (x.tv r) | .tru x => oTru (x.tv r) | .and x y => oAnd (x.tv r) (y.tv r) | .or x y => oOr (x.tv r) (y.tv r)
theorem gap_ok (n : Nat) (m : List Cell) (x y : Wv) : (mdOf T (n+1)).fns "are_one_gap" [.dat x.d, .dat y.d] m = .ok (.dat (.bool (match x, y with | .gap i, .gap j => decide (i = j) | _, _ => false))) ⟨[], m⟩ := by
  rw [fns_are_one_gap]
  cases x <;> cases y <;> simp [d_are_one_gap, Wv.d]
  rename_i i j
  by_cases h : i = j <;> simp [h]
theorem same_ok (n : Nat) (m : List Cell) (x y : Wv) : (mdOf T (n+2)).fns "same" [.dat x.d, .dat y.d] m = .ok (.dat (tvD (x.same y))) ⟨[], m⟩ := by
  have e1 := known_ok (T := T) n m x y
  have e2 := gap_ok (T := T) n m x y
  rw [fns_same]
  cases x <;> cases y <;> simp [Wv.d, Wv.isN] at e1 e2 <;> simp [d_same, Wv.d, Wv.same, e1, e2, tvD]
  · rename_i i j
    by_cases h : i = j <;> simp [h]
  · rename_i i j
    by_cases h : i = j <;> simp [h]
theorem less_ok (n : Nat) (m : List Cell) (x y : Wv) : (mdOf T (n+2)).fns "less" [.dat x.d, .dat y.d] m = .ok (.dat (tvD (x.less y))) ⟨[], m⟩ := by
  have e1 := known_ok (T := T) n m x y
  have e2 := gap_ok (T := T) n m x y
  rw [fns_less]
  cases x <;> cases y <;> simp [Wv.d, Wv.isN] at e1 e2 <;> simp [d_less, Wv.d, Wv.less, e1, e2, tvD]
  rename_i i j
  by_cases h : i = j <;> simp [h]
theorem opp_ok (n : Nat) (m : List Cell) (x : Option Bool) : (mdOf T (n+1)).fns "opposite" [.dat (tvD x)] m = .ok (.dat (tvD (oNot x))) ⟨[], m⟩ := by
  rw [fns_opposite]
  cases x with
  | none => simp [d_opposite, tvD, oNot]
  | some b => cases b <;> simp [d_opposite, tvD, oNot]
theorem both_ok (n : Nat) (m : List Cell) (x y : Option Bool) : (mdOf T (n+1)).fns "of_both" [.dat (tvD x), .dat (tvD y)] m = .ok (.dat (tvD (oAnd x y))) ⟨[], m⟩ := by
  rw [fns_of_both]
  rcases x with _ | x <;> rcases y with _ | y <;> try cases x
  all_goals try cases y
  all_goals simp [d_of_both, tvD, oAnd]
theorem either_ok (n : Nat) (m : List Cell) (x y : Option Bool) : (mdOf T (n+1)).fns "of_either" [.dat (tvD x), .dat (tvD y)] m = .ok (.dat (tvD (oOr x y))) ⟨[], m⟩ := by
  rw [fns_of_either]
  rcases x with _ | x <;> rcases y with _ | y <;> try cases x
  all_goals try cases y
  all_goals simp [d_of_either, tvD, oOr]
theorem parts_ok (r : List Cl) (k : Nat) (m : List Cell) (x : Cd) (hk : x.deep ≤ k + 1) (ho : x.ok r.length) (hx : match x with | .is _ _ => True | .less _ _ => True | .lacks _ => True | _ => False) :
    (mdOf T (k+3)).fns "truth_of_parts" [.dat x.d, .dat (.tuple (r.map Cl.d))] m = .ok (.dat (tvD (x.tv r))) ⟨[], m⟩ := by
  rw [fns_truth_of_parts]
  cases x with
  | is a b =>
    have hd : (Cd.is a b).deep = max a.deep b.deep + 1 := rfl
    rw [hd] at hk
    have e1 := comes_ok (T := T) r a k m (by omega) ho.1
    have e2 := comes_ok (T := T) r b k m (by omega) ho.2
    have e3 := same_ok (T := T) k m (a.val r) (b.val r)
    simp [d_truth_of_parts, Cd.d, Cd.tv, e1, e2, e3]
  | less a b =>
    have hd : (Cd.less a b).deep = max a.deep b.deep + 1 := rfl
    rw [hd] at hk
    have e1 := comes_ok (T := T) r a k m (by omega) ho.1
    have e2 := comes_ok (T := T) r b k m (by omega) ho.2
    have e3 := less_ok (T := T) k m (a.val r) (b.val r)
    simp [d_truth_of_parts, Cd.d, Cd.tv, e1, e2, e3]
  | lacks a =>
    have hd : (Cd.lacks a).deep = a.deep + 1 := rfl
    rw [hd] at hk
    have e1 := comes_ok (T := T) r a k m (by omega) ho
    cases ha : a.val r <;> rw [ha] at e1 <;> simp [Wv.d] at e1 <;> simp [d_truth_of_parts, Cd.d, Cd.tv, e1, ha, Wv.isN, tvD]
  | not _ => exact hx.elim
  | tru _ => exact hx.elim
  | and _ _ => exact hx.elim
  | or _ _ => exact hx.elim
theorem truth_ok (r : List Cl) (x : Cd) : ∀ (k : Nat) (m : List Cell), x.deep ≤ k → x.ok r.length → (mdOf T (k+4)).fns "truth_of" [.dat x.d, .dat (.tuple (r.map Cl.d))] m = .ok (.dat (tvD (x.tv r))) ⟨[], m⟩ := by
  induction x with
  | is a b =>
    intro k m hk ho
    have e1 := parts_ok (T := T) r k m (.is a b) (by omega) ho trivial
    simp [Cd.d] at e1
    rw [fns_truth_of]
    simp [d_truth_of, Cd.d, e1]
  | less a b =>
    intro k m hk ho
    have e1 := parts_ok (T := T) r k m (.less a b) (by omega) ho trivial
    simp [Cd.d] at e1
    rw [fns_truth_of]
    simp [d_truth_of, Cd.d, e1]
  | lacks a =>
    intro k m hk ho
    have e1 := parts_ok (T := T) r k m (.lacks a) (by omega) ho trivial
    simp [Cd.d] at e1
    rw [fns_truth_of]
    simp [d_truth_of, Cd.d, e1]
  | not x ihx =>
    intro k m hk ho
    have hd : (Cd.not x).deep = x.deep + 1 := rfl
    rw [hd] at hk
    obtain ⟨k, rfl⟩ : ∃ j, k = j + 1 := ⟨k - 1, by omega⟩
    have e1 := ihx k m (by omega) ho
    have e2 := opp_ok (T := T) (k + 3) m (x.tv r)
    rw [fns_truth_of]
    simp [d_truth_of, Cd.d, e1, e2, Cd.tv]
  | tru x ihx =>
    intro k m hk ho
    have hd : (Cd.tru x).deep = x.deep + 1 := rfl
    rw [hd] at hk
    obtain ⟨k, rfl⟩ : ∃ j, k = j + 1 := ⟨k - 1, by omega⟩
    have e1 := ihx k m (by omega) ho
    rw [fns_truth_of]
    rcases h : x.tv r with _ | b
    · simp [h, tvD] at e1
      simp [d_truth_of, Cd.d, e1, Cd.tv, h, tvD, oTru]
    · cases b <;> simp [h, tvD] at e1 <;> simp [d_truth_of, Cd.d, e1, Cd.tv, h, tvD, oTru]
  | and x y ihx ihy =>
    intro k m hk ho
    have hd : (Cd.and x y).deep = max x.deep y.deep + 1 := rfl
    rw [hd] at hk
    obtain ⟨k, rfl⟩ : ∃ j, k = j + 1 := ⟨k - 1, by omega⟩
    have e1 := ihx k m (by omega) ho.1
    have e2 := ihy k m (by omega) ho.2
    have e3 := both_ok (T := T) (k + 3) m (x.tv r) (y.tv r)
    rw [fns_truth_of]
    simp [d_truth_of, Cd.d, e1, e2, e3, Cd.tv]
  | or x y ihx ihy =>
    intro k m hk ho
    have hd : (Cd.or x y).deep = max x.deep y.deep + 1 := rfl
    rw [hd] at hk
    obtain ⟨k, rfl⟩ : ∃ j, k = j + 1 := ⟨k - 1, by omega⟩
    have e1 := ihx k m (by omega) ho.1
    have e2 := ihy k m (by omega) ho.2
    have e3 := either_ok (T := T) (k + 3) m (x.tv r) (y.tv r)
    rw [fns_truth_of]
    simp [d_truth_of, Cd.d, e1, e2, e3, Cd.tv]
end
section
variable [CThree T]
theorem three_ok (r : List Cl) (x : Cd) (k : Nat) (m : List Cell) (hk : x.deep ≤ k) (hc : x.size ≤ 60) (ho : x.ok r.length) (hr : ∀ c ∈ r, c.ok) (h1 : 1 ≤ r.length) (h8 : r.length ≤ 8) :
    ∃ t, (mdOf T (k+7)).fns "three" [.dat x.d, .dat (.tuple (r.map Cl.d))] m = .ok (.dat (tvD (x.tv r))) ⟨[], m ++ [t]⟩ := by
  obtain ⟨t, e2⟩ := check_cd (T := T) x k m r.length hk hc ho
  have e1 := check_row_ok (T := T) k m r hr h1 h8
  have e3 := truth_ok (T := T) r x (k + 2) (m ++ [t]) (by omega) ho
  refine ⟨t, ?_⟩
  rw [fns_three]
  simp [d_three, e1, e2, e3]

end
end Gq
end

section
namespace Gq
open PySem PySem.Spec L2
variable {T : Tb}

def Dc (c : Cell) : Prop := ∃ (s : List Int) (p q r : Int), c = .lst [.list (s.map .int), .int p, .int q, .int r] ∧ 0 ≤ p
theorem fm (a : Int) {k : Int} (hk : 1 ≤ k) : 0 ≤ a.fmod k ∧ a.fmod k < k := by
  rw [Int.fmod_eq_emod_of_nonneg a (by omega)]
  exact ⟨Int.emod_nonneg _ (by omega), Int.emod_lt_of_pos _ (by omega)⟩
section
variable [CDice T]
theorem next_ok (n : Nat) (rest : List Cell) (c : Cell) (hc : Dc c) (k : Int) (h1 : 1 ≤ k) (h2 : k ≤ 1000000000) :
    ∃ v c', Dc c' ∧ 0 ≤ v ∧ v < k ∧ (mdOf T (n+1)).fns "_law_next" [.hnd 0, .dat (.int k)] (c :: rest) = .ok (.dat (.int v)) ⟨[], c' :: rest⟩ := by
  obtain ⟨s, p, q, r, rfl, hp⟩ := hc
  have k0 : k ≠ 0 := by omega
  have k1 : k.natAbs < 1073741824 := by omega
  rw [fns__law_next]
  by_cases hr : 0 < r
  · refine ⟨r.fmod k, .lst [.list (s.map .int), .int p, .int q, .int (r.fdiv k)], ⟨s, p, q, _, rfl, hp⟩, (fm r h1).1, (fm r h1).2, ?_⟩
    simp [d__law_next, hr, k0, k1]
  · by_cases hl : p + 1 ≤ s.length
    · obtain ⟨j, hj⟩ : ∃ j : Nat, p = j := ⟨p.toNat, by omega⟩
      subst hj
      have hj : j < s.length := by omega
      have e1 : s[j]? = some s[j] := List.getElem?_eq_getElem hj
      by_cases hz : (10 : Int) ^ 18 ≤ s[j]
      · refine ⟨s[j].fmod k, .lst [.list (s.map .int), .int (j + 1), .int q, .int (s[j].fdiv k)], ⟨s, _, q, _, rfl, by omega⟩, (fm _ h1).1, (fm _ h1).2, ?_⟩
        simp at hz
        simp [d__law_next, hr, k0, k1, hl, hj, e1, hz]
      · refine ⟨s[j].fmod k, .lst [.list (s.map .int), .int (j + 1), .int q, .int 0], ⟨s, _, q, _, rfl, by omega⟩, (fm _ h1).1, (fm _ h1).2, ?_⟩
        simp at hz
        have hz' : ¬ (1000000000000000000 ≤ s[j]) := by omega
        simp [d__law_next, hr, k0, k1, hl, hj, e1, hz']
    · refine ⟨((q * 48271).fmod 2147483647 |>.fdiv 7).fmod k, .lst [.list (s.map .int), .int (p + 1), .int ((q * 48271).fmod 2147483647), .int r], ⟨s, _, _, _, rfl, by omega⟩, (fm _ h1).1, (fm _ h1).2, ?_⟩
      simp [d__law_next, hr, k0, k1, hl]


end
section
variable [CCell T]
theorem cell_ok (n : Nat) (rest : List Cell) (c : Cell) (hc : Dc c) (ns : List Int) (h0 : ns ≠ []) (hn : ∀ i ∈ ns, 0 ≤ i ∧ i ≤ 9) (hl : ns.length ≤ 10) :
    ∃ x c', Dc c' ∧ Cl.ok x ∧ (mdOf T (n+2)).fns "_law_cell" [.hnd 0, .dat (.list (ns.map .int))] (c :: rest) = .ok (.dat x.d) ⟨[], c' :: rest⟩ := by
  rw [fns__law_cell]
  obtain ⟨v1, c1, d1, a1, b1, e1⟩ := next_ok (T := T) n rest c hc 8 (by omega) (by omega)
  by_cases h4 : v1 < 4
  · obtain ⟨v2, c2, d2, a2, b2, e2⟩ := next_ok (T := T) n rest c1 d1 3 (by omega) (by omega)
    refine ⟨.num v2, c2, d2, ⟨a2, by omega⟩, ?_⟩
    simp [d__law_cell, e1, e2, h4, Cl.d]
  · by_cases h5 : v1 = 4
    · obtain ⟨v2, c2, d2, a2, b2, e2⟩ := next_ok (T := T) n rest c1 d1 100 (by omega) (by omega)
      obtain ⟨v3, c3, d3, a3, b3, e3⟩ := next_ok (T := T) n rest c2 d2 3 (by omega) (by omega)
      have : v3 = 0 ∨ v3 = 1 ∨ v3 = 2 := by omega
      rcases this with rfl | rfl | rfl
      · refine ⟨.num v2, c3, d3, ⟨a2, by omega⟩, ?_⟩
        simp [d__law_cell, e1, e2, e3, h5, Cl.d]
      · refine ⟨.num 99, c3, d3, ⟨by omega, by omega⟩, ?_⟩
        simp [d__law_cell, e1, e2, e3, h5, Cl.d]
      · refine ⟨.num 3, c3, d3, ⟨by omega, by omega⟩, ?_⟩
        simp [d__law_cell, e1, e2, e3, h5, Cl.d]
    · have hp : 0 < ns.length := List.length_pos_iff.mpr h0
      obtain ⟨v2, c2, d2, a2, b2, e2⟩ := next_ok (T := T) n rest c1 d1 ns.length (by omega) (by omega)
      obtain ⟨j, hj⟩ : ∃ j : Nat, v2 = j := ⟨v2.toNat, by omega⟩
      subst hj
      have hj : j < ns.length := by omega
      have e3 : ns[j]? = some ns[j] := List.getElem?_eq_getElem hj
      refine ⟨.gap ns[j], c2, d2, hn _ (List.getElem_mem hj), ?_⟩
      have h5' : ¬ (v1 = 4) := h5
      simp [d__law_cell, e1, e2, h4, h5', Cl.d, hj, e3]
end
section
variable [CCond T]
theorem deep_plus {x y : Pt} {d : Nat} (hx : x.deep ≤ d) (hy : y.deep ≤ d) : (Pt.plus x y).deep ≤ d + 1 := by
  have : (Pt.plus x y).deep = max x.deep y.deep + 1 := rfl
  omega
theorem deep_take {x y : Pt} {d : Nat} (hx : x.deep ≤ d) (hy : y.deep ≤ d) : (Pt.take x y).deep ≤ d + 1 := by
  have : (Pt.take x y).deep = max x.deep y.deep + 1 := rfl
  omega
theorem ok_col {w j : Nat} (h : j < w) : Pt.ok w (.col j) := h
theorem part_ok (w : Nat) (hw : 1 ≤ w) (hw8 : w ≤ 8) : ∀ (deep : Nat) (n : Nat) (rest : List Cell) (c : Cell), Dc c →
    ∃ x c', Dc c' ∧ Pt.ok w x ∧ x.deep ≤ deep ∧ (mdOf T (n+deep+2)).fns "_law_part" [.hnd 0, .dat (.int w), .dat (.int deep)] (c :: rest) = .ok (.dat x.d) ⟨[], c' :: rest⟩ := by
  intro deep
  induction deep with
  | zero =>
    intro n rest c hc
    rw [show n + 0 + 2 = (n + 1) + 1 from rfl, fns__law_part]
    obtain ⟨v1, c1, d1, a1, b1, e1⟩ := next_ok (T := T) n rest c hc 8 (by omega) (by omega)
    by_cases h5 : v1 < 5 ∨ 6 < v1
    · obtain ⟨v2, c2, d2, a2, b2, e2⟩ := next_ok (T := T) n rest c1 d1 w (by omega) (by omega)
      obtain ⟨j, hj⟩ : ∃ j : Nat, v2 = j := ⟨v2.toNat, by omega⟩
      subst hj
      refine ⟨.col j, c2, d2, ok_col (by omega), Nat.le_refl _, ?_⟩
      rcases h5 with h5 | h5
      · simp [d__law_part, e1, e2, h5, Pt.d]
      · have h6 : ¬ (v1 < 5) := by omega
        simp [d__law_part, e1, e2, h5, h6, Pt.d]
    · have h6 : ¬ (v1 < 5) := by omega
      have h7 : ¬ (6 < v1) := by omega
      have h8 : v1 < 7 := by omega
      obtain ⟨v2, c2, d2, a2, b2, e2⟩ := next_ok (T := T) n rest c1 d1 4 (by omega) (by omega)
      obtain ⟨v3, c3, d3, a3, b3, e3⟩ := next_ok (T := T) n rest c2 d2 100 (by omega) (by omega)
      obtain ⟨v4, c4, d4, a4, b4, e4⟩ := next_ok (T := T) n rest c3 d3 6 (by omega) (by omega)
      by_cases h9 : v4 = 5
      · refine ⟨.num v3, c4, d4, ⟨a3, by omega⟩, Nat.le_refl _, ?_⟩
        simp [d__law_part, e1, e2, e3, e4, h6, h7, h8, h9, Pt.d]
      · refine ⟨.num v2, c4, d4, ⟨a2, by omega⟩, Nat.le_refl _, ?_⟩
        simp [d__law_part, e1, e2, e3, e4, h6, h7, h8, h9, Pt.d]
  | succ deep ih =>
    intro n rest c hc
    rw [show n + (deep + 1) + 2 = (n + deep + 2) + 1 by omega, fns__law_part]
    have z0 : ¬ ((deep : Int) + 1 = 0) := by omega
    have N : ∀ (k : Int) (c : Cell), Dc c → 1 ≤ k → k ≤ 1000000000 → ∃ v c', Dc c' ∧ 0 ≤ v ∧ v < k ∧ (mdOf T (n+deep+2)).fns "_law_next" [.hnd 0, .dat (.int k)] (c :: rest) = .ok (.dat (.int v)) ⟨[], c' :: rest⟩ := fun k c hc h1 h2 => next_ok (T := T) (n + deep + 1) rest c hc k h1 h2
    obtain ⟨v1, c1, d1, a1, b1, e1⟩ := N 8 c hc (by omega) (by omega)
    by_cases h5 : v1 < 5
    · obtain ⟨v2, c2, d2, a2, b2, e2⟩ := N w c1 d1 (by omega) (by omega)
      obtain ⟨j, hj⟩ : ∃ j : Nat, v2 = j := ⟨v2.toNat, by omega⟩
      subst hj
      refine ⟨.col j, c2, d2, ok_col (by omega), Nat.zero_le _, ?_⟩
      simp [d__law_part, e1, e2, h5, Pt.d]
    · by_cases h8 : v1 < 7
      · obtain ⟨v2, c2, d2, a2, b2, e2⟩ := N 4 c1 d1 (by omega) (by omega)
        obtain ⟨v3, c3, d3, a3, b3, e3⟩ := N 100 c2 d2 (by omega) (by omega)
        obtain ⟨v4, c4, d4, a4, b4, e4⟩ := N 6 c3 d3 (by omega) (by omega)
        by_cases h9 : v4 = 5
        · refine ⟨.num v3, c4, d4, ⟨a3, by omega⟩, Nat.zero_le _, ?_⟩
          simp [d__law_part, e1, e2, e3, e4, h5, h8, h9, z0, Pt.d]
        · refine ⟨.num v2, c4, d4, ⟨a2, by omega⟩, Nat.zero_le _, ?_⟩
          simp [d__law_part, e1, e2, e3, e4, h5, h8, h9, z0, Pt.d]
      · obtain ⟨v2, c2, d2, a2, b2, e2⟩ := N 2 c1 d1 (by omega) (by omega)
        obtain ⟨x, c3, d3, o3, q3, e3⟩ := ih n rest c2 d2
        obtain ⟨y, c4, d4, o4, q4, e4⟩ := ih n rest c3 d3
        have z1 : (deep : Int) + 1 - 1 = deep := by omega
        have : v2 = 0 ∨ v2 = 1 := by omega
        rcases this with rfl | rfl
        · refine ⟨.plus x y, c4, d4, ⟨o3, o4⟩, deep_plus q3 q4, ?_⟩
          simp [d__law_part, e1, e2, e3, e4, h5, h8, z0, z1, Pt.d]
        · refine ⟨.take x y, c4, d4, ⟨o3, o4⟩, deep_take q3 q4, ?_⟩
          simp [d__law_part, e1, e2, e3, e4, h5, h8, z0, z1, Pt.d]

theorem deep_not {x : Cd} {d : Nat} (hx : x.deep ≤ d) : (Cd.not x).deep ≤ d + 1 := by
  have : (Cd.not x).deep = x.deep + 1 := rfl
  omega
theorem deep_tru {x : Cd} {d : Nat} (hx : x.deep ≤ d) : (Cd.tru x).deep ≤ d + 1 := by
  have : (Cd.tru x).deep = x.deep + 1 := rfl
  omega
theorem deep_and {x y : Cd} {d : Nat} (hx : x.deep ≤ d) (hy : y.deep ≤ d) : (Cd.and x y).deep ≤ d + 1 := by
  have : (Cd.and x y).deep = max x.deep y.deep + 1 := rfl
  omega
theorem deep_or {x y : Cd} {d : Nat} (hx : x.deep ≤ d) (hy : y.deep ≤ d) : (Cd.or x y).deep ≤ d + 1 := by
  have : (Cd.or x y).deep = max x.deep y.deep + 1 := rfl
  omega

theorem deep_is {x y : Pt} (hx : x.deep ≤ 3) (hy : y.deep ≤ 3) : (Cd.is x y).deep ≤ 4 := by
  have : (Cd.is x y).deep = max x.deep y.deep + 1 := rfl
  omega
theorem deep_less {x y : Pt} (hx : x.deep ≤ 3) (hy : y.deep ≤ 3) : (Cd.less x y).deep ≤ 4 := by
  have : (Cd.less x y).deep = max x.deep y.deep + 1 := rfl
  omega
theorem deep_lacks {x : Pt} (hx : x.deep ≤ 3) : (Cd.lacks x).deep ≤ 4 := by
  have : (Cd.lacks x).deep = x.deep + 1 := rfl
  omega
theorem cond_ok (w : Nat) (hw : 1 ≤ w) (hw8 : w ≤ 8) : ∀ (deep : Nat) (n : Nat) (rest : List Cell) (c : Cell), Dc c →
    ∃ x c', Dc c' ∧ Cd.ok w x ∧ x.deep ≤ deep + 4 ∧ (mdOf T (n+deep+6)).fns "_law_condition" [.hnd 0, .dat (.int w), .dat (.int deep), .dat (.bool false)] (c :: rest) = .ok (.dat x.d) ⟨[], c' :: rest⟩ := by
  intro deep
  induction deep with
  | zero =>
    intro n rest c hc
    have N : ∀ (k : Int) (c : Cell), Dc c → 1 ≤ k → k ≤ 1000000000 → ∃ v c', Dc c' ∧ 0 ≤ v ∧ v < k ∧ (mdOf T (n+5)).fns "_law_next" [.hnd 0, .dat (.int k)] (c :: rest) = .ok (.dat (.int v)) ⟨[], c' :: rest⟩ := fun k c hc h1 h2 => next_ok (T := T) (n + 4) rest c hc k h1 h2
    have P : ∀ (f : Int) (c : Cell), Dc c → f = 1 ∨ f = 3 → ∃ x c', Dc c' ∧ Pt.ok w x ∧ x.deep ≤ 3 ∧ (mdOf T (n+5)).fns "_law_part" [.hnd 0, .dat (.int w), .dat (.int f)] (c :: rest) = .ok (.dat x.d) ⟨[], c' :: rest⟩ := fun f c hc hf => by
      rcases hf with rfl | rfl
      · obtain ⟨x, c', h1, h2, h3, h4⟩ := part_ok (T := T) w hw hw8 1 (n + 2) rest c hc
        exact ⟨x, c', h1, h2, by omega, h4⟩
      · obtain ⟨x, c', h1, h2, h3, h4⟩ := part_ok (T := T) w hw hw8 3 n rest c hc
        exact ⟨x, c', h1, h2, by omega, h4⟩
    rw [show n + 0 + 6 = (n + 5) + 1 from rfl, fns__law_condition]
    obtain ⟨v1, c1, d1, a1, b1, e1⟩ := N 9 c hc (by omega) (by omega)
    obtain ⟨v2, c2, d2, a2, b2, e2⟩ := N 4 c1 d1 (by omega) (by omega)
    obtain ⟨v3, c3, d3, a3, b3, e3⟩ := N 5 c2 d2 (by omega) (by omega)
    have hv : v2 = 0 ∨ v2 = 1 ∨ v2 = 2 ∨ v2 = 3 := by omega
    by_cases h3 : v3 = 0
    · rcases hv with rfl | rfl | rfl | rfl
      all_goals first
        | (obtain ⟨x, c4, d4, o4, q4, e4⟩ := P 1 c3 d3 (.inl rfl)
           refine ⟨.lacks x, c4, d4, o4, deep_lacks q4, ?_⟩
           simp [d__law_condition, e1, e2, e3, e4, h3, Cd.d]; done)
        | (obtain ⟨x, c4, d4, o4, q4, e4⟩ := P 3 c3 d3 (.inr rfl)
           refine ⟨.lacks x, c4, d4, o4, deep_lacks q4, ?_⟩
           simp [d__law_condition, e1, e2, e3, e4, h3, Cd.d]; done)
    · obtain ⟨v4, c4, d4, a4, b4, e4⟩ := N 2 c3 d3 (by omega) (by omega)
      have hv4 : v4 = 0 ∨ v4 = 1 := by omega
      rcases hv with rfl | rfl | rfl | rfl
      all_goals first
        | (obtain ⟨x, c5, d5, o5, q5, e5⟩ := P 1 c4 d4 (.inl rfl)
           obtain ⟨y, c6, d6, o6, q6, e6⟩ := P 1 c5 d5 (.inl rfl)
           rcases hv4 with rfl | rfl
           · refine ⟨.is x y, c6, d6, ⟨o5, o6⟩, deep_is q5 q6, ?_⟩
             simp [d__law_condition, e1, e2, e3, e4, e5, e6, h3, Cd.d]; done
           · refine ⟨.less x y, c6, d6, ⟨o5, o6⟩, deep_less q5 q6, ?_⟩
             simp [d__law_condition, e1, e2, e3, e4, e5, e6, h3, Cd.d]; done)
        | (obtain ⟨x, c5, d5, o5, q5, e5⟩ := P 3 c4 d4 (.inr rfl)
           obtain ⟨y, c6, d6, o6, q6, e6⟩ := P 3 c5 d5 (.inr rfl)
           rcases hv4 with rfl | rfl
           · refine ⟨.is x y, c6, d6, ⟨o5, o6⟩, deep_is q5 q6, ?_⟩
             simp [d__law_condition, e1, e2, e3, e4, e5, e6, h3, Cd.d]; done
           · refine ⟨.less x y, c6, d6, ⟨o5, o6⟩, deep_less q5 q6, ?_⟩
             simp [d__law_condition, e1, e2, e3, e4, e5, e6, h3, Cd.d]; done)
  | succ deep ih =>
    intro n rest c hc
    have z0 : ¬ ((deep : Int) + 1 = 0) := by omega
    have z1 : (deep : Int) + 1 - 1 = deep := by omega
    have N : ∀ (k : Int) (c : Cell), Dc c → 1 ≤ k → k ≤ 1000000000 → ∃ v c', Dc c' ∧ 0 ≤ v ∧ v < k ∧ (mdOf T (n+deep+6)).fns "_law_next" [.hnd 0, .dat (.int k)] (c :: rest) = .ok (.dat (.int v)) ⟨[], c' :: rest⟩ := fun k c hc h1 h2 => next_ok (T := T) (n + deep + 5) rest c hc k h1 h2
    have P : ∀ (f : Int) (c : Cell), Dc c → f = 1 ∨ f = 3 → ∃ x c', Dc c' ∧ Pt.ok w x ∧ x.deep ≤ 3 ∧ (mdOf T (n+deep+6)).fns "_law_part" [.hnd 0, .dat (.int w), .dat (.int f)] (c :: rest) = .ok (.dat x.d) ⟨[], c' :: rest⟩ := fun f c hc hf => by
      rcases hf with rfl | rfl
      · obtain ⟨x, c', h1, h2, h3, h4⟩ := part_ok (T := T) w hw hw8 1 (n + deep + 3) rest c hc
        exact ⟨x, c', h1, h2, by omega, h4⟩
      · obtain ⟨x, c', h1, h2, h3, h4⟩ := part_ok (T := T) w hw hw8 3 (n + deep + 1) rest c hc
        exact ⟨x, c', h1, h2, by omega, h4⟩
    rw [show n + (deep + 1) + 6 = (n + deep + 6) + 1 by omega, fns__law_condition]
    obtain ⟨v1, c1, d1, a1, b1, e1⟩ := N 9 c hc (by omega) (by omega)
    obtain ⟨v2, c2, d2, a2, b2, e2⟩ := N 4 c1 d1 (by omega) (by omega)
    have hv : v2 = 0 ∨ v2 = 1 ∨ v2 = 2 ∨ v2 = 3 := by omega
    have up : ∀ {y : Cd}, y.deep ≤ 4 → y.deep ≤ deep + 1 + 4 := fun h => by omega
    have up2 : ∀ {y : Cd}, y.deep ≤ deep + 4 + 1 → y.deep ≤ deep + 1 + 4 := fun h => by omega
    by_cases h4 : v1 < 4
    · obtain ⟨v3, c3, d3, a3, b3, e3⟩ := N 5 c2 d2 (by omega) (by omega)
      by_cases h3 : v3 = 0
      · rcases hv with rfl | rfl | rfl | rfl
        all_goals first
          | (obtain ⟨x, c4, d4, o4, q4, e4⟩ := P 1 c3 d3 (.inl rfl)
             refine ⟨.lacks x, c4, d4, o4, up (deep_lacks q4), ?_⟩
             simp [d__law_condition, e1, e2, e3, e4, h3, h4, z0, Cd.d]; done)
          | (obtain ⟨x, c4, d4, o4, q4, e4⟩ := P 3 c3 d3 (.inr rfl)
             refine ⟨.lacks x, c4, d4, o4, up (deep_lacks q4), ?_⟩
             simp [d__law_condition, e1, e2, e3, e4, h3, h4, z0, Cd.d]; done)
      · obtain ⟨v4, c4, d4, a4, b4, e4⟩ := N 2 c3 d3 (by omega) (by omega)
        have hv4 : v4 = 0 ∨ v4 = 1 := by omega
        rcases hv with rfl | rfl | rfl | rfl
        all_goals first
          | (obtain ⟨x, c5, d5, o5, q5, e5⟩ := P 1 c4 d4 (.inl rfl)
             obtain ⟨y, c6, d6, o6, q6, e6⟩ := P 1 c5 d5 (.inl rfl)
             rcases hv4 with rfl | rfl
             · refine ⟨.is x y, c6, d6, ⟨o5, o6⟩, up (deep_is q5 q6), ?_⟩
               simp [d__law_condition, e1, e2, e3, e4, e5, e6, h3, h4, z0, Cd.d]; done
             · refine ⟨.less x y, c6, d6, ⟨o5, o6⟩, up (deep_less q5 q6), ?_⟩
               simp [d__law_condition, e1, e2, e3, e4, e5, e6, h3, h4, z0, Cd.d]; done)
          | (obtain ⟨x, c5, d5, o5, q5, e5⟩ := P 3 c4 d4 (.inr rfl)
             obtain ⟨y, c6, d6, o6, q6, e6⟩ := P 3 c5 d5 (.inr rfl)
             rcases hv4 with rfl | rfl
             · refine ⟨.is x y, c6, d6, ⟨o5, o6⟩, up (deep_is q5 q6), ?_⟩
               simp [d__law_condition, e1, e2, e3, e4, e5, e6, h3, h4, z0, Cd.d]; done
             · refine ⟨.less x y, c6, d6, ⟨o5, o6⟩, up (deep_less q5 q6), ?_⟩
               simp [d__law_condition, e1, e2, e3, e4, e5, e6, h3, h4, z0, Cd.d]; done)
    · have L : ∃ f, (f = 1 ∨ f = 3) ∧ ([PyData.int 1, .int 1, .int 1, .int 3][v2.toNat]? = some (.int f)) := by
        rcases hv with rfl | rfl | rfl | rfl
        · exact ⟨1, .inl rfl, rfl⟩
        · exact ⟨1, .inl rfl, rfl⟩
        · exact ⟨1, .inl rfl, rfl⟩
        · exact ⟨3, .inr rfl, rfl⟩
      obtain ⟨x, c3, d3, o3, q3, e3⟩ := ih n rest c2 d2
      by_cases h6 : v1 < 6
      · refine ⟨.not x, c3, d3, o3, up2 (deep_not q3), ?_⟩
        rcases hv with rfl | rfl | rfl | rfl <;> simp [d__law_condition, e1, e2, e3, h4, h6, z0, z1, Cd.d]
      · by_cases h7 : v1 = 6
        · refine ⟨.tru x, c3, d3, o3, up2 (deep_tru q3), ?_⟩
          subst h7
          rcases hv with rfl | rfl | rfl | rfl <;> simp [d__law_condition, e1, e2, e3, z0, z1, Cd.d]
        · obtain ⟨y, c4, d4, o4, q4, e4⟩ := ih n rest c3 d3
          have hv1 : v1 = 7 ∨ v1 = 8 := by omega
          rcases hv1 with rfl | rfl
          · refine ⟨.and x y, c4, d4, ⟨o3, o4⟩, up2 (deep_and q3 q4), ?_⟩
            rcases hv with rfl | rfl | rfl | rfl <;> simp [d__law_condition, e1, e2, e3, e4, z0, z1, Cd.d]
          · refine ⟨.or x y, c4, d4, ⟨o3, o4⟩, up2 (deep_or q3 q4), ?_⟩
            rcases hv with rfl | rfl | rfl | rfl <;> simp [d__law_condition, e1, e2, e3, e4, z0, z1, Cd.d]


end
section
variable [CThings T]
theorem Pt.form (p : Pt) : ∃ w l, p.d = .tuple (.str w :: l) := by cases p <;> exact ⟨_, _, rfl⟩
theorem Cd.form (p : Cd) : ∃ w l, p.d = .tuple (.str w :: l) := by cases p <;> exact ⟨_, _, rfl⟩
@[simp] theorem min1 (n : Nat) : min n 1 ≤ 64 := by omega
theorem things_pt (p : Pt) : ∀ (k : Nat) (m : List Cell), p.deep ≤ k → (mdOf T (k+1)).fns "_law_things" [.dat p.d] m = .ok (.dat (.int p.size)) ⟨[], m⟩ := by
  induction p with
  | col i =>
    intro k m hk
    rw [fns__law_things]
    simp [d__law_things, Pt.d, Pt.size]
  | num i =>
    intro k m hk
    rw [fns__law_things]
    simp [d__law_things, Pt.d, Pt.size]
  | plus a b iha ihb =>
    intro k m hk
    have hd : (Pt.plus a b).deep = max a.deep b.deep + 1 := rfl
    rw [hd] at hk
    obtain ⟨k, rfl⟩ : ∃ j, k = j + 1 := ⟨k - 1, by omega⟩
    have e1 := iha k m (by omega)
    have e2 := ihb k m (by omega)
    obtain ⟨w1, l1, f1⟩ := a.form
    obtain ⟨w2, l2, f2⟩ := b.form
    rw [f1] at e1
    rw [f2] at e2
    rw [fns__law_things]
    simp [d__law_things, Pt.d, Pt.size, f1, f2, e1, e2]
    omega
  | take a b iha ihb =>
    intro k m hk
    have hd : (Pt.take a b).deep = max a.deep b.deep + 1 := rfl
    rw [hd] at hk
    obtain ⟨k, rfl⟩ : ∃ j, k = j + 1 := ⟨k - 1, by omega⟩
    have e1 := iha k m (by omega)
    have e2 := ihb k m (by omega)
    obtain ⟨w1, l1, f1⟩ := a.form
    obtain ⟨w2, l2, f2⟩ := b.form
    rw [f1] at e1
    rw [f2] at e2
    rw [fns__law_things]
    simp [d__law_things, Pt.d, Pt.size, f1, f2, e1, e2]
    omega
theorem things_cd (x : Cd) : ∀ (k : Nat) (m : List Cell), x.deep ≤ k → (mdOf T (k+1)).fns "_law_things" [.dat x.d] m = .ok (.dat (.int x.size)) ⟨[], m⟩ := by
  induction x with
  | is a b =>
    intro k m hk
    have hd : (Cd.is a b).deep = max a.deep b.deep + 1 := rfl
    rw [hd] at hk
    obtain ⟨k, rfl⟩ : ∃ j, k = j + 1 := ⟨k - 1, by omega⟩
    have e0 := things_pt (T := T) a k m (by omega)
    obtain ⟨w0, l0, f0⟩ := a.form
    rw [f0] at e0
    have e1 := things_pt (T := T) b k m (by omega)
    obtain ⟨w1, l1, f1⟩ := b.form
    rw [f1] at e1
    rw [fns__law_things]
    simp [d__law_things, Cd.d, Cd.size, f0, e0, f1, e1]
    omega
  | less a b =>
    intro k m hk
    have hd : (Cd.less a b).deep = max a.deep b.deep + 1 := rfl
    rw [hd] at hk
    obtain ⟨k, rfl⟩ : ∃ j, k = j + 1 := ⟨k - 1, by omega⟩
    have e0 := things_pt (T := T) a k m (by omega)
    obtain ⟨w0, l0, f0⟩ := a.form
    rw [f0] at e0
    have e1 := things_pt (T := T) b k m (by omega)
    obtain ⟨w1, l1, f1⟩ := b.form
    rw [f1] at e1
    rw [fns__law_things]
    simp [d__law_things, Cd.d, Cd.size, f0, e0, f1, e1]
    omega
  | lacks a =>
    intro k m hk
    have hd : (Cd.lacks a).deep = a.deep + 1 := rfl
    rw [hd] at hk
    obtain ⟨k, rfl⟩ : ∃ j, k = j + 1 := ⟨k - 1, by omega⟩
    have e0 := things_pt (T := T) a k m (by omega)
    obtain ⟨w0, l0, f0⟩ := a.form
    rw [f0] at e0
    rw [fns__law_things]
    simp [d__law_things, Cd.d, Cd.size, f0, e0]
    omega
  | not x ihx =>
    intro k m hk
    have hd : (Cd.not x).deep = x.deep + 1 := rfl
    rw [hd] at hk
    obtain ⟨k, rfl⟩ : ∃ j, k = j + 1 := ⟨k - 1, by omega⟩
    have e0 := ihx k m (by omega)
    obtain ⟨w0, l0, f0⟩ := x.form
    rw [f0] at e0
    rw [fns__law_things]
    simp [d__law_things, Cd.d, Cd.size, f0, e0]
    omega
  | tru x ihx =>
    intro k m hk
    have hd : (Cd.tru x).deep = x.deep + 1 := rfl
    rw [hd] at hk
    obtain ⟨k, rfl⟩ : ∃ j, k = j + 1 := ⟨k - 1, by omega⟩
    have e0 := ihx k m (by omega)
    obtain ⟨w0, l0, f0⟩ := x.form
    rw [f0] at e0
    rw [fns__law_things]
    simp [d__law_things, Cd.d, Cd.size, f0, e0]
    omega
  | and x y ihx ihy =>
    intro k m hk
    have hd : (Cd.and x y).deep = max x.deep y.deep + 1 := rfl
    rw [hd] at hk
    obtain ⟨k, rfl⟩ : ∃ j, k = j + 1 := ⟨k - 1, by omega⟩
    have e0 := ihx k m (by omega)
    obtain ⟨w0, l0, f0⟩ := x.form
    rw [f0] at e0
    have e1 := ihy k m (by omega)
    obtain ⟨w1, l1, f1⟩ := y.form
    rw [f1] at e1
    rw [fns__law_things]
    simp [d__law_things, Cd.d, Cd.size, f0, e0, f1, e1]
    omega
  | or x y ihx ihy =>
    intro k m hk
    have hd : (Cd.or x y).deep = max x.deep y.deep + 1 := rfl
    rw [hd] at hk
    obtain ⟨k, rfl⟩ : ∃ j, k = j + 1 := ⟨k - 1, by omega⟩
    have e0 := ihx k m (by omega)
    obtain ⟨w0, l0, f0⟩ := x.form
    rw [f0] at e0
    have e1 := ihy k m (by omega)
    obtain ⟨w1, l1, f1⟩ := y.form
    rw [f1] at e1
    rw [fns__law_things]
    simp [d__law_things, Cd.d, Cd.size, f0, e0, f1, e1]
    omega


end
section
variable [CLNum T]
theorem lnum_ok (n : Nat) (m : List Cell) (x : Wv) : (mdOf T (n+1)).fns "_law_is_number" [.dat x.d] m = .ok (.dat (.bool x.isN)) ⟨[], m⟩ := by
  rw [fns__law_is_number]
  cases x <;> simp [d__law_is_number, Wv.d, Wv.isN]
end
section
variable [CWorth T]
theorem worth_ok (r : List Cl) (p : Pt) : ∀ (k : Nat) (m : List Cell), p.deep ≤ k → p.ok r.length → (mdOf T (k+2)).fns "_law_worth" [.dat p.d, .dat (.tuple (r.map Cl.d))] m = .ok (.dat (p.val r).d) ⟨[], m⟩ := by
  induction p with
  | col i =>
    intro k m hk ho
    have hi : i < r.length := ho
    rw [fns__law_worth]
    have h2 : (i : Int) < r.length := by omega
    have h3 : r[i]? = some r[i] := List.getElem?_eq_getElem hi
    simp [d__law_worth, Pt.d, Pt.val, h2, h3, Cl.wvd]
  | num i =>
    intro k m hk ho
    rw [fns__law_worth]
    simp [d__law_worth, Pt.d, Pt.val, Wv.d]
  | plus a b iha ihb =>
    intro k m hk ho
    have hd : (Pt.plus a b).deep = max a.deep b.deep + 1 := rfl
    rw [hd] at hk
    obtain ⟨k, rfl⟩ : ∃ j, k = j + 1 := ⟨k - 1, by omega⟩
    have e1 := iha k m (by omega) ho.1
    have e2 := ihb k m (by omega) ho.2
    have e3 := lnum_ok (T := T) (k + 1) m (a.val r)
    have e4 := lnum_ok (T := T) (k + 1) m (b.val r)
    rw [fns__law_worth]
    cases ha : a.val r <;> cases hb : b.val r <;> rw [ha] at e1 e3 <;> rw [hb] at e2 e4 <;> simp [Wv.d, Wv.isN] at e1 e2 e3 e4 <;> simp [d__law_worth, Pt.d, Pt.val, e1, e2, e3, e4, ha, hb, Wv.add, Wv.d]
  | take a b iha ihb =>
    intro k m hk ho
    have hd : (Pt.take a b).deep = max a.deep b.deep + 1 := rfl
    rw [hd] at hk
    obtain ⟨k, rfl⟩ : ∃ j, k = j + 1 := ⟨k - 1, by omega⟩
    have e1 := iha k m (by omega) ho.1
    have e2 := ihb k m (by omega) ho.2
    have e3 := lnum_ok (T := T) (k + 1) m (a.val r)
    have e4 := lnum_ok (T := T) (k + 1) m (b.val r)
    rw [fns__law_worth]
    cases ha : a.val r <;> cases hb : b.val r <;> rw [ha] at e1 e3 <;> rw [hb] at e2 e4 <;> simp [Wv.d, Wv.isN] at e1 e2 e3 e4 <;> simp [d__law_worth, Pt.d, Pt.val, e1, e2, e3, e4, ha, hb, Wv.sub, Wv.d]
    omega
def code : Option Bool → Int | some true => 2 | some false => 0 | none => 1
theorem held_is (n : Nat) (m : List Cell) (x y : Wv) : (mdOf T (n+2)).fns "_law_held" [.dat (.str "is"), .dat x.d, .dat y.d] m = .ok (.dat (.int (code (x.same y)))) ⟨[], m⟩ := by
  have e1 := lnum_ok (T := T) n m x
  have e2 := lnum_ok (T := T) n m y
  rw [fns__law_held]
  cases x <;> cases y <;> simp [Wv.d, Wv.isN] at e1 e2 <;> simp [d__law_held, Wv.d, Wv.same, e1, e2, code]
  · rename_i i j
    by_cases h : i = j <;> simp [h]
  · rename_i i j
    by_cases h : i = j <;> simp [h]
theorem held_less (n : Nat) (m : List Cell) (x y : Wv) : (mdOf T (n+2)).fns "_law_held" [.dat (.str "less"), .dat x.d, .dat y.d] m = .ok (.dat (.int (code (x.less y)))) ⟨[], m⟩ := by
  have e1 := lnum_ok (T := T) n m x
  have e2 := lnum_ok (T := T) n m y
  rw [fns__law_held]
  cases x <;> cases y <;> simp [Wv.d, Wv.isN] at e1 e2 <;> simp [d__law_held, Wv.d, Wv.less, e1, e2, code]
  · rename_i i j
    by_cases h : i < j <;> simp [h]
  · rename_i i j
    by_cases h : i = j <;> simp [h]
theorem ltruth_ok (r : List Cl) (x : Cd) : ∀ (k : Nat) (m : List Cell), x.deep ≤ k → x.ok r.length → (mdOf T (k+3)).fns "_law_truth" [.dat x.d, .dat (.tuple (r.map Cl.d))] m = .ok (.dat (.int (code (x.tv r)))) ⟨[], m⟩ := by
  induction x with
  | is a b =>
    intro k m hk ho
    have hd : (Cd.is a b).deep = max a.deep b.deep + 1 := rfl
    rw [hd] at hk
    have e1 := worth_ok (T := T) r a k m (by omega) ho.1
    have e2 := worth_ok (T := T) r b k m (by omega) ho.2
    have e3 := held_is (T := T) k m (a.val r) (b.val r)
    rw [fns__law_truth]
    simp [d__law_truth, Cd.d, Cd.tv, e1, e2, e3]
  | less a b =>
    intro k m hk ho
    have hd : (Cd.less a b).deep = max a.deep b.deep + 1 := rfl
    rw [hd] at hk
    have e1 := worth_ok (T := T) r a k m (by omega) ho.1
    have e2 := worth_ok (T := T) r b k m (by omega) ho.2
    have e3 := held_less (T := T) k m (a.val r) (b.val r)
    rw [fns__law_truth]
    simp [d__law_truth, Cd.d, Cd.tv, e1, e2, e3]
  | lacks a =>
    intro k m hk ho
    have hd : (Cd.lacks a).deep = a.deep + 1 := rfl
    rw [hd] at hk
    have e1 := worth_ok (T := T) r a k m (by omega) ho
    have e2 := lnum_ok (T := T) (k + 1) m (a.val r)
    rw [fns__law_truth]
    cases ha : a.val r <;> rw [ha] at e1 e2 <;> simp [Wv.d, Wv.isN] at e1 e2 <;> simp [d__law_truth, Cd.d, Cd.tv, e1, e2, ha, Wv.isN, code]
  | not x ihx =>
    intro k m hk ho
    have hd : (Cd.not x).deep = x.deep + 1 := rfl
    rw [hd] at hk
    obtain ⟨k, rfl⟩ : ∃ j, k = j + 1 := ⟨k - 1, by omega⟩
    have e1 := ihx k m (by omega) ho
    rw [fns__law_truth]
    rcases h : x.tv r with _ | b
    · simp [h, code] at e1
      simp [d__law_truth, Cd.d, e1, Cd.tv, h, oNot, code]
    · cases b <;> simp [h, code] at e1 <;> simp [d__law_truth, Cd.d, e1, Cd.tv, h, oNot, code]
  | tru x ihx =>
    intro k m hk ho
    have hd : (Cd.tru x).deep = x.deep + 1 := rfl
    rw [hd] at hk
    obtain ⟨k, rfl⟩ : ∃ j, k = j + 1 := ⟨k - 1, by omega⟩
    have e1 := ihx k m (by omega) ho
    rw [fns__law_truth]
    rcases h : x.tv r with _ | b
    · simp [h, code] at e1
      simp [d__law_truth, Cd.d, e1, Cd.tv, h, oTru, code]
    · cases b <;> simp [h, code] at e1 <;> simp [d__law_truth, Cd.d, e1, Cd.tv, h, oTru, code]
  | and x y ihx ihy =>
    intro k m hk ho
    have hd : (Cd.and x y).deep = max x.deep y.deep + 1 := rfl
    rw [hd] at hk
    obtain ⟨k, rfl⟩ : ∃ j, k = j + 1 := ⟨k - 1, by omega⟩
    have e1 := ihx k m (by omega) ho.1
    have e2 := ihy k m (by omega) ho.2
    rw [fns__law_truth]
    have hm : code (oAnd (x.tv r) (y.tv r)) = min (code (x.tv r)) (code (y.tv r)) := by
      rcases x.tv r with _ | a <;> rcases y.tv r with _ | b <;> try cases a
      all_goals try cases b
      all_goals rfl
    simp [d__law_truth, Cd.d, e1, e2, Cd.tv, hm]
  | or x y ihx ihy =>
    intro k m hk ho
    have hd : (Cd.or x y).deep = max x.deep y.deep + 1 := rfl
    rw [hd] at hk
    obtain ⟨k, rfl⟩ : ∃ j, k = j + 1 := ⟨k - 1, by omega⟩
    have e1 := ihx k m (by omega) ho.1
    have e2 := ihy k m (by omega) ho.2
    rw [fns__law_truth]
    have hm : code (oOr (x.tv r) (y.tv r)) = max (code (x.tv r)) (code (y.tv r)) := by
      rcases x.tv r with _ | a <;> rcases y.tv r with _ | b <;> try cases a
      all_goals try cases b
      all_goals rfl
    simp [d__law_truth, Cd.d, e1, e2, Cd.tv, hm]
end
section
variable [CLike T]
theorem like_ok (n : Nat) (m : List Cell) (x : Option Bool) : (mdOf T (n+1)).fns "_law_like" [.dat (tvD x), .dat (tvD x)] m = .ok (.dat (.bool true)) ⟨[], m⟩ := by
  rw [fns__law_like]
  rcases x with _ | b
  · simp [d__law_like, tvD]
  · cases b <;> simp [d__law_like, tvD]


end
section
variable [CDice T]
theorem fl_nx {tg : Tg} {body : Mo Fl} {d : D} {ds : List D} {s s2 : S} {e : List Sl} (h1 : tgSet tg d s.env = some e) (h2 : body ⟨e, s.mem⟩ = .ok .nx s2) : fLoop tg body (d :: ds) s = fLoop tg body ds s2 := by
  conv => lhs; unfold fLoop
  rw [h1]
  show (body ⟨e, s.mem⟩).bind _ = _
  rw [h2]
  rfl
def diceBody : SoL := .cons (.asg 1 (.bin .mod (.bin .add (.bin .add (.bin .mul (.var 1) (.kon (.int 48271))) (.bin .mul (.bin .mod (.var 2) (.kon (.int 2147483647))) (.kon (.int 69621)))) (.kon (.int 11))) (.kon (.int 2147483647)))) .nil
theorem dice_loop (md : Md) (L : D) (m : List Cell) : ∀ (ns : List Int) (x : Int) (a2 : Sl), ∃ y a2', fLoop (.nm 2) (denSs md diceBody) (ns.map .int) ⟨[.dat L, .dat (.int x), a2], m⟩ = .ok .nx ⟨[.dat L, .dat (.int y), a2'], m⟩ := by
  intro ns
  induction ns with
  | nil => intro x a2; exact ⟨x, a2, rfl⟩
  | cons i ns ih =>
    intro x a2
    obtain ⟨y, a, e⟩ := ih ((x * 48271 + i.fmod 2147483647 * 69621 + 11).fmod 2147483647) (.dat (.int i))
    refine ⟨y, a, ?_⟩
    have h : denSs md diceBody ⟨[.dat L, .dat (.int x), .dat (.int i)], m⟩ = .ok .nx ⟨[.dat L, .dat (.int ((x * 48271 + i.fmod 2147483647 * 69621 + 11).fmod 2147483647)), .dat (.int i)], m⟩ := by
      simp [diceBody]
    exact (fl_nx (e := [.dat L, .dat (.int x), .dat (.int i)]) rfl h).trans e
theorem dice_ok (n : Nat) (ns : List Int) (m : List Cell) : ∃ q, (mdOf T (n+1)).fns "_law_dice" [.dat (.list (ns.map .int))] m = .ok (.fr [.list (ns.map .int), .int 0, .int q, .int 0]) ⟨[], m⟩ := by
  obtain ⟨y, a, e⟩ := dice_loop (mdOf T n) (.list (ns.map .int)) m ns 0 .un
  simp [diceBody] at e
  rw [fns__law_dice]
  by_cases h : (2 : Int) < ns.length
  · refine ⟨y, ?_⟩
    simp [d__law_dice, e, h]
  · refine ⟨0, ?_⟩
    simp [d__law_dice, e, h]

end
end Gq
end

section
namespace Gq
open PySem PySem.Spec L2
variable {T : Tb}
def Cd.safe : Cd → Prop
  | .is _ _ => True | .less _ _ => True | .lacks _ => False | .not x => x.safe | .tru _ => False | .and x y => x.safe ∧ y.safe | .or x y => x.safe ∧ y.safe
section
variable [CDice T]
theorem nxt (n : Nat) (hn : 1 ≤ n) (rest : List Cell) (c : Cell) (hc : Dc c) (k : Int) (h1 : 1 ≤ k) (h2 : k ≤ 1000000000) :
    ∃ v c', Dc c' ∧ 0 ≤ v ∧ v < k ∧ (mdOf T n).fns "_law_next" [.hnd 0, .dat (.int k)] (c :: rest) = .ok (.dat (.int v)) ⟨[], c' :: rest⟩ := by
  obtain ⟨n, rfl⟩ : ∃ j, n = j + 1 := ⟨n - 1, by omega⟩
  exact next_ok n rest c hc k h1 h2
theorem nxtN (n : Nat) (hn : 1 ≤ n) (rest : List Cell) (c : Cell) (hc : Dc c) (k : Nat) (h1 : 1 ≤ k) (h2 : k ≤ 1000000000) :
    ∃ (v : Nat) (c' : Cell), Dc c' ∧ v < k ∧ (mdOf T n).fns "_law_next" [.hnd 0, .dat (.int k)] (c :: rest) = .ok (.dat (.int v)) ⟨[], c' :: rest⟩ := by
  obtain ⟨v, c', d, a, b, e⟩ := nxt (T := T) n hn rest c hc k (by omega) (by omega)
  obtain ⟨j, hj⟩ : ∃ j : Nat, v = j := ⟨v.toNat, by omega⟩
  subst hj
  exact ⟨j, c', d, by omega, e⟩
end
section
variable [CCond T]
theorem prt (w : Nat) (hw : 1 ≤ w) (hw8 : w ≤ 8) (n : Nat) (hn : 5 ≤ n) (rest : List Cell) (f : Int) (c : Cell) (hc : Dc c) (hf : f = 1 ∨ f = 3) :
    ∃ x c', Dc c' ∧ Pt.ok w x ∧ x.deep ≤ 3 ∧ (mdOf T n).fns "_law_part" [.hnd 0, .dat (.int w), .dat (.int f)] (c :: rest) = .ok (.dat x.d) ⟨[], c' :: rest⟩ := by
  obtain ⟨n, rfl⟩ : ∃ j, n = j + 5 := ⟨n - 5, by omega⟩
  rcases hf with rfl | rfl
  · obtain ⟨x, c', h1, h2, h3, h4⟩ := part_ok (T := T) w hw hw8 1 (n + 2) rest c hc
    exact ⟨x, c', h1, h2, by omega, h4⟩
  · obtain ⟨x, c', h1, h2, h3, h4⟩ := part_ok (T := T) w hw hw8 3 n rest c hc
    exact ⟨x, c', h1, h2, by omega, h4⟩
theorem far_of (v : Int) (h0 : 0 ≤ v) (h4 : v < 4) : ∃ f, (f = 1 ∨ f = 3) ∧ ∀ (h : v.toNat < [PyData.int 1, .int 1, .int 1, .int 3].length), [PyData.int 1, .int 1, .int 1, .int 3][v.toNat]'h = .int f := by
  have : v = 0 ∨ v = 1 ∨ v = 2 ∨ v = 3 := by omega
  rcases this with rfl | rfl | rfl | rfl
  · exact ⟨1, .inl rfl, fun _ => rfl⟩
  · exact ⟨1, .inl rfl, fun _ => rfl⟩
  · exact ⟨1, .inl rfl, fun _ => rfl⟩
  · exact ⟨3, .inr rfl, fun _ => rfl⟩
theorem cond_safe (w : Nat) (hw : 1 ≤ w) (hw8 : w ≤ 8) : ∀ (deep n : Nat) (rest : List Cell) (c : Cell), Dc c → deep + 6 ≤ n →
    ∃ x c', Dc c' ∧ Cd.ok w x ∧ x.deep ≤ deep + 4 ∧ x.safe ∧ (mdOf T n).fns "_law_condition" [.hnd 0, .dat (.int w), .dat (.int deep), .dat (.bool true)] (c :: rest) = .ok (.dat x.d) ⟨[], c' :: rest⟩ := by
  intro deep
  induction deep with
  | zero =>
    intro n rest c hc hn
    obtain ⟨n, rfl⟩ : ∃ j, n = j + 1 := ⟨n - 1, by omega⟩
    rw [fns__law_condition]
    obtain ⟨v1, c1, d1, a1, b1, e1⟩ := nxt (T := T) n (by omega) rest c hc 9 (by omega) (by omega)
    obtain ⟨v2, c2, d2, a2, b2, e2⟩ := nxt (T := T) n (by omega) rest c1 d1 4 (by omega) (by omega)
    obtain ⟨f, hf, ef⟩ := far_of v2 a2 b2
    obtain ⟨v4, c4, d4, a4, b4, e4⟩ := nxt (T := T) n (by omega) rest c2 d2 2 (by omega) (by omega)
    obtain ⟨x, c5, d5, o5, q5, e5⟩ := prt (T := T) w hw hw8 n (by omega) rest f c4 d4 hf
    obtain ⟨y, c6, d6, o6, q6, e6⟩ := prt (T := T) w hw hw8 n (by omega) rest f c5 d5 hf
    have hv4 : v4 = 0 ∨ v4 = 1 := by omega
    rcases hv4 with rfl | rfl
    · refine ⟨.is x y, c6, d6, ⟨o5, o6⟩, deep_is q5 q6, trivial, ?_⟩
      simp [d__law_condition, e1, e2, a2, b2, ef, e4, e5, e6, Cd.d]
    · refine ⟨.less x y, c6, d6, ⟨o5, o6⟩, deep_less q5 q6, trivial, ?_⟩
      simp [d__law_condition, e1, e2, a2, b2, ef, e4, e5, e6, Cd.d]
  | succ deep ih =>
    intro n rest c hc hn
    obtain ⟨n, rfl⟩ : ∃ j, n = j + 1 := ⟨n - 1, by omega⟩
    have z0 : ¬ ((deep : Int) + 1 = 0) := by omega
    have z1 : (deep : Int) + 1 - 1 = deep := by omega
    rw [fns__law_condition]
    obtain ⟨v1, c1, d1, a1, b1, e1⟩ := nxt (T := T) n (by omega) rest c hc 9 (by omega) (by omega)
    obtain ⟨v2, c2, d2, a2, b2, e2⟩ := nxt (T := T) n (by omega) rest c1 d1 4 (by omega) (by omega)
    obtain ⟨f, hf, ef⟩ := far_of v2 a2 b2
    by_cases h4 : v1 < 4
    · obtain ⟨v4, c4, d4, a4, b4, e4⟩ := nxt (T := T) n (by omega) rest c2 d2 2 (by omega) (by omega)
      obtain ⟨x, c5, d5, o5, q5, e5⟩ := prt (T := T) w hw hw8 n (by omega) rest f c4 d4 hf
      obtain ⟨y, c6, d6, o6, q6, e6⟩ := prt (T := T) w hw hw8 n (by omega) rest f c5 d5 hf
      have hv4 : v4 = 0 ∨ v4 = 1 := by omega
      rcases hv4 with rfl | rfl
      · refine ⟨.is x y, c6, d6, ⟨o5, o6⟩, Nat.le_trans (deep_is q5 q6) (by omega), trivial, ?_⟩
        simp [d__law_condition, e1, e2, a2, b2, ef, e4, e5, e6, h4, z0, Cd.d]
      · refine ⟨.less x y, c6, d6, ⟨o5, o6⟩, Nat.le_trans (deep_less q5 q6) (by omega), trivial, ?_⟩
        simp [d__law_condition, e1, e2, a2, b2, ef, e4, e5, e6, h4, z0, Cd.d]
    · obtain ⟨x, c3, d3, o3, q3, s3, e3⟩ := ih n rest c2 d2 (by omega)
      by_cases h6 : v1 < 7
      · refine ⟨.not x, c3, d3, o3, Nat.le_trans (deep_not q3) (by omega), s3, ?_⟩
        have : v1 < 6 ∨ v1 = 6 := by omega
        rcases this with h | h <;> simp [d__law_condition, e1, e2, e3, h4, a2, b2, ef, h, z0, z1, Cd.d]
      · obtain ⟨y, c4, d4, o4, q4, s4, e4⟩ := ih n rest c3 d3 (by omega)
        have hv1 : v1 = 7 ∨ v1 = 8 := by omega
        rcases hv1 with rfl | rfl
        · refine ⟨.and x y, c4, d4, ⟨o3, o4⟩, Nat.le_trans (deep_and q3 q4) (by omega), ⟨s3, s4⟩, ?_⟩
          simp [d__law_condition, e1, e2, e3, e4, a2, b2, ef, z0, z1, Cd.d]
        · refine ⟨.or x y, c4, d4, ⟨o3, o4⟩, Nat.le_trans (deep_or q3 q4) (by omega), ⟨s3, s4⟩, ?_⟩
          simp [d__law_condition, e1, e2, e3, e4, a2, b2, ef, z0, z1, Cd.d]
theorem cnd (w : Nat) (hw : 1 ≤ w) (hw8 : w ≤ 8) (safe : Bool) (deep n : Nat) (hn : deep + 6 ≤ n) (rest : List Cell) (c : Cell) (hc : Dc c) :
    ∃ x c', Dc c' ∧ Cd.ok w x ∧ x.deep ≤ deep + 4 ∧ (safe = true → x.safe) ∧ (mdOf T n).fns "_law_condition" [.hnd 0, .dat (.int w), .dat (.int deep), .dat (.bool safe)] (c :: rest) = .ok (.dat x.d) ⟨[], c' :: rest⟩ := by
  cases safe with
  | false =>
    obtain ⟨n, rfl⟩ : ∃ j, n = j + deep + 6 := ⟨n - deep - 6, by omega⟩
    obtain ⟨x, c', h1, h2, h3, h4⟩ := cond_ok (T := T) w hw hw8 deep n rest c hc
    exact ⟨x, c', h1, h2, h3, (fun h => by cases h), h4⟩
  | true =>
    obtain ⟨x, c', h1, h2, h3, h4, h5⟩ := cond_safe (T := T) w hw hw8 deep n rest c hc hn
    exact ⟨x, c', h1, h2, h3, fun _ => h4, h5⟩
end
end Gq
end

section
namespace Gq
open PySem PySem.Spec L2
variable {T : Tb}
@[simp] theorem enuD_eq (ds : List D) : enuD ds = ds.mapIdx fun i d => .tuple [.int i, d] := rfl


def rowD (r : List Cl) : D := .tuple (r.map Cl.d)
def tabD (w : Nat) (rows : List (List Cl)) : D := .tuple [.int w, .list (rows.map rowD)]
section
variable [CCkTab T]
def ctBody : SoL := .cons (.iff (.not (.cal "is_row" (.cons (.var 5) (.cons (.var 2) .nil)))) (.cons .nev .nil) .nil) .nil
theorem ct_loop (n : Nat) (m : List Cell) (w : Nat) (e0 e1 e3 : Sl) : ∀ (rows : List (List Cl)) (g : Nat → Int) (e4 e5 : Sl), (∀ r ∈ rows, r.length = w ∧ ∀ c ∈ r, Cl.ok c) →
    ∃ s, fLoop (.tp [4, 5]) (denSs (mdOf T (n+5)) ctBody) (rows.mapIdx fun j r => .tuple [.int (g j), rowD r]) ⟨[e0, e1, .dat (.int w), e3, e4, e5], m⟩ = .ok .nx s ∧ s.mem = m := by
  intro rows
  induction rows with
  | nil => intro g e4 e5 h; exact ⟨_, rfl, rfl⟩
  | cons r rows ih =>
    intro g e4 e5 h
    obtain ⟨h1, h2⟩ := h r List.mem_cons_self
    obtain ⟨s, e, e'⟩ := ih (fun j => g (j + 1)) (.dat (.int (g 0))) (.dat (rowD r)) fun r' hr => h r' (List.mem_cons_of_mem _ hr)
    have k := is_row_ok (T := T) n m r h2
    rw [h1] at k
    have b : denSs (mdOf T (n+5)) ctBody ⟨[e0, e1, .dat (.int w), e3, .dat (.int (g 0)), .dat (rowD r)], m⟩ = .ok .nx ⟨[e0, e1, .dat (.int w), e3, .dat (.int (g 0)), .dat (rowD r)], m⟩ := by
      simp [ctBody, rowD, k]
    refine ⟨s, ?_, e'⟩
    rw [List.mapIdx_cons]
    conv => lhs; unfold fLoop
    show (denSs (mdOf T (n+5)) ctBody ⟨[e0, e1, .dat (.int w), e3, .dat (.int (g 0)), .dat (rowD r)], m⟩).bind _ = _
    rw [b]
    exact e
structure Tab where
  w : Nat
  rows : List (List Cl)
def Tab.d (t : Tab) : D := tabD t.w t.rows
structure Tab.ok (t : Tab) : Prop where
  w1 : 1 ≤ t.w
  w4 : t.w ≤ 4
  few : t.rows.length ≤ 6
  row : ∀ r ∈ t.rows, r.length = t.w ∧ ∀ c ∈ r, Cl.ok c
theorem check_table_ok (n : Nat) (m : List Cell) (t : Tab) (at_ : Int) (h : t.ok) : (mdOf T (n+6)).fns "check_table" [.dat t.d, .dat (.int at_)] m = .ok (.dat .none) ⟨[], m⟩ := by
  obtain ⟨s, e, e'⟩ := ct_loop (T := T) n m t.w (.dat t.d) (.dat (.int at_)) (.dat (.list (t.rows.map rowD))) t.rows (fun j => (j : Int)) .un .un h.row
  have a1 : (1 : Int) ≤ t.w := by have := h.w1; omega
  have a2 : (t.w : Int) ≤ 4 := by have := h.w4; omega
  have a3 : ¬ ((6 : Int) < t.rows.length) := by have := h.few; omega
  have hm : (List.mapIdx (fun i d => PyData.tuple [.int i, d]) (t.rows.map rowD)) = t.rows.mapIdx fun j r => .tuple [.int (j : Int), rowD r] := by
    apply List.ext_getElem?
    intro i
    rw [List.getElem?_mapIdx, List.getElem?_mapIdx, List.getElem?_map, Option.map_map]
    rfl
  simp [Tab.d, tabD, ctBody] at e
  rw [fns_check_table]
  simp [d_check_table, Tab.d, tabD, is_within_ok, a1, a2, a3]
  rw [hm]
  rw [e]
  simp [e']
def cBody : SoL := .cons (.exp (.cal "check_table" (.cons (.var 2) (.cons (.var 1) .nil)))) .nil
theorem c_loop (n : Nat) (m : List Cell) (e0 : Sl) : ∀ (ts : List Tab) (g : Nat → Int) (e1 e2 : Sl), (∀ t ∈ ts, t.ok) →
    ∃ s, fLoop (.tp [1, 2]) (denSs (mdOf T (n+6)) cBody) (ts.mapIdx fun j t => .tuple [.int (g j), t.d]) ⟨[e0, e1, e2], m⟩ = .ok .nx s ∧ s.mem = m := by
  intro ts
  induction ts with
  | nil => intro g e1 e2 h; exact ⟨_, rfl, rfl⟩
  | cons t ts ih =>
    intro g e1 e2 h
    obtain ⟨s, e, e'⟩ := ih (fun j => g (j + 1)) (.dat (.int (g 0))) (.dat t.d) fun r' hr => h r' (List.mem_cons_of_mem _ hr)
    have k := check_table_ok (T := T) n m t (g 0) (h t List.mem_cons_self)
    have b : denSs (mdOf T (n+6)) cBody ⟨[e0, .dat (.int (g 0)), .dat t.d], m⟩ = .ok .nx ⟨[e0, .dat (.int (g 0)), .dat t.d], m⟩ := by
      simp [cBody, k]
    refine ⟨s, ?_, e'⟩
    rw [List.mapIdx_cons]
    conv => lhs; unfold fLoop
    show (denSs (mdOf T (n+6)) cBody ⟨[e0, .dat (.int (g 0)), .dat t.d], m⟩).bind _ = _
    rw [b]
    exact e
def tabsD (ts : List Tab) : D := .list (ts.map Tab.d)
theorem check_tables_ok (n : Nat) (m : List Cell) (ts : List Tab) (h : ∀ t ∈ ts, t.ok) (h1 : 1 ≤ ts.length) (h3 : ts.length ≤ 3) : (mdOf T (n+7)).fns "check_tables" [.dat (tabsD ts)] m = .ok (.dat .none) ⟨[], m⟩ := by
  obtain ⟨s, e, e'⟩ := c_loop (T := T) n m (.dat (tabsD ts)) ts (fun j => (j : Int)) .un .un h
  have a1 : (1 : Int) ≤ ts.length := by omega
  have a2 : (ts.length : Int) ≤ 3 := by omega
  have hm : (List.mapIdx (fun i d => PyData.tuple [.int i, d]) (ts.map Tab.d)) = ts.mapIdx fun j t => .tuple [.int (j : Int), t.d] := by
    apply List.ext_getElem?
    intro i
    rw [List.getElem?_mapIdx, List.getElem?_mapIdx, List.getElem?_map, Option.map_map]
    rfl
  simp [tabsD, cBody] at e
  rw [fns_check_tables]
  simp [d_check_tables, tabsD, a1, a2]
  rw [hm]
  rw [e]
  simp [e']


theorem cl_cons {tg : Tg} {m : Mo Vl} {vs : List Nat} {d y : D} {ds acc : List D} {s s3 : S} {e : List Sl} {r : Vl} (h1 : tgSet tg d s.env = some e) (h2 : m ⟨e, s.mem⟩ = .ok r s3) (h3 : asD r = some y) :
    cLoop tg (pur true) m vs (d :: ds) acc s = cLoop tg (pur true) m vs ds (acc ++ [y]) { s3 with env := wipeE s3.env vs } := by
  conv => lhs; unfold cLoop
  rw [h1]
  show (m ⟨e, s.mem⟩).bind _ = _
  rw [h2]
  show (match asD r with | some y => _ | none => _) = _
  rw [h3]
theorem w_loop (md : Md) (m : List Cell) (e0 : Sl) : ∀ (ts : List Tab) (acc : List D), cLoop (.tp [1, 2]) (pur true) (den md (.var 1)) [1, 2] (ts.map Tab.d) acc ⟨[e0, .un, .un], m⟩ = .ok (acc ++ ts.map fun t => .int t.w) ⟨[e0, .un, .un], m⟩ := by
  intro ts
  induction ts with
  | nil => intro acc; simp [cLoop]
  | cons t ts ih =>
    intro acc
    rw [List.map_cons, cl_cons (tg := .tp [1, 2]) (m := den md (.var 1)) (vs := [1, 2]) (d := t.d) (y := .int t.w) (s := ⟨[e0, .un, .un], m⟩) (e := [e0, .dat (.int t.w), .dat (.list (t.rows.map rowD))]) (r := .dat (.int t.w)) (s3 := ⟨[e0, .dat (.int t.w), .dat (.list (t.rows.map rowD))], m⟩) rfl rfl rfl]
    show cLoop (.tp [1, 2]) (pur true) (den md (.var 1)) [1, 2] (ts.map Tab.d) (acc ++ [.int t.w]) ⟨[e0, .un, .un], m⟩ = _
    rw [ih, List.map_cons, List.append_assoc]
    rfl
end
section
variable [CWid T]
theorem widths_ok (n : Nat) (m : List Cell) (ts : List Tab) (h3 : ts.length ≤ 3) : (mdOf T (n+1)).fns "widths_of" [.dat (tabsD ts)] m = .ok (.fr (ts.map fun t => .int t.w)) ⟨[], m⟩ := by
  have e := w_loop (mdOf T n) m (.dat (tabsD ts)) ts []
  have a1 : ts.length ≤ 1000 := by omega
  simp [tabsD] at e
  rw [fns_widths_of]
  simp [d_widths_of, tabsD, a1, e]

end
end Gq
end

section
namespace Gq
open PySem PySem.Spec L2
variable {T : Tb}
section
variable [CCell T]
def Lsl (L : List D) (s : Sl) : Prop := s = .own L ∨ s = .dat (.list L)
structure Nms (ns : List Int) : Prop where
  ne : ns ≠ []
  ok : ∀ i ∈ ns, 0 ≤ i ∧ i ≤ 9
  few : ns.length ≤ 10
theorem law_cell (n : Nat) (hn : 2 ≤ n) (rest : List Cell) (c : Cell) (hc : Dc c) (ns : List Int) (h : Nms ns) :
    ∃ x c', Dc c' ∧ Cl.ok x ∧ (mdOf T n).fns "_law_cell" [.hnd 0, .dat (.list (ns.map .int))] (c :: rest) = .ok (.dat x.d) ⟨[], c' :: rest⟩ := by
  obtain ⟨n, rfl⟩ : ∃ j, n = j + 2 := ⟨n - 2, by omega⟩
  exact cell_ok n rest c hc ns h.ne h.ok h.few
theorem row_loop (n : Nat) (hn : 2 ≤ n) (rest : List Cell) (ns : List Int) (h : Nms ns) (tg : Tg) (v : Nat) (q p : Nat) (E : Sl → List Sl) (hE : ∀ sl d, ∃ e, tgSet tg d (E sl) = some e ∧ e[q]? = some (.hnd 0) ∧ (e[p]? = some sl) ∧ e.set p sl = e ∧ wipeE (e.set p (.dat (.list (ns.map .int)))) [v] = E (.dat (.list (ns.map .int))) ∧ (e.set p (.dat (.list (ns.map .int))))[q]? = some (.hnd 0)) :
    ∀ (ds : List D) (c : Cell) (sl : Sl), Dc c → Lsl (ns.map .int) sl → ∃ (r : List Cl) (c' : Cell) (sl' : Sl), Dc c' ∧ Lsl (ns.map .int) sl' ∧ r.length = ds.length ∧ (∀ x ∈ r, Cl.ok x) ∧
      cLoop tg (pur true) (den (mdOf T n) (.cal "_law_cell" (.cons (.var q) (.cons (.var p) .nil)))) [v] ds [] ⟨E sl, c :: rest⟩ = .ok (r.map Cl.d) ⟨E sl', c' :: rest⟩ := by
  intro ds c sl hc hsl
  obtain ⟨r, s', e1, e2, e3, c', sl', e4, e5, e6⟩ := cl_draw (tg := tg) (m := den (mdOf T n) (.cal "_law_cell" (.cons (.var q) (.cons (.var p) .nil)))) (vs := [v]) Cl.d Cl.ok (fun s => ∃ c sl, Dc c ∧ Lsl (ns.map .int) sl ∧ s = ⟨E sl, c :: rest⟩) ds (fun d hd s hs => by
    obtain ⟨c, sl, hc, hsl, rfl⟩ := hs
    obtain ⟨e, t1, t2, t3, t4, t5, t6⟩ := hE sl d
    obtain ⟨x, c', hc', ox, ex⟩ := law_cell (T := T) n hn rest c hc ns h
    refine ⟨e, .dat x.d, x, ⟨e.set p (.dat (.list (ns.map .int))), c' :: rest⟩, t1, ?_, rfl, ox, c', .dat (.list (ns.map .int)), hc', .inr rfl, by rw [t5]⟩
    rcases hsl with rfl | rfl
    · simp [t2, t3, t4, ex]
    · simp [t2, t3, t4, ex]) [] ⟨E sl, c :: rest⟩ ⟨c, sl, hc, hsl, rfl⟩
  subst e6
  exact ⟨r, c', sl', e4, e5, e2, e3, by simpa using e1⟩

end
section
variable [CTabs T]
theorem eraseIdx_map' {α β : Type} (f : α → β) : ∀ (l : List α) (v : Nat), (l.map f).eraseIdx v = (l.eraseIdx v).map f
  | [], _ => rfl
  | _ :: _, 0 => rfl
  | a :: l, v + 1 => by
    show f a :: (l.map f).eraseIdx v = f a :: (l.eraseIdx v).map f
    rw [eraseIdx_map' f l v]
theorem pop_names (n : Nat) (hn : 1 ≤ n) (rest : List Cell) (k mo : D) (e4 e5 e6 e7 e8 e9 e11 : Sl) : ∀ (ds : List D) (c : Cell), Dc c → ds.length ≤ 10 →
    ∃ (ns : List Int) (l : List Int) (c' : Cell), Dc c' ∧ ns.length = ds.length ∧ (∀ i ∈ ns, 0 ≤ i ∧ i ≤ 9) ∧
      cLoop (.nm 10) (pur true) (den (mdOf T n) (.mut .pop 3 (.cons (.cal "_law_next" (.cons (.var 0) (.cons (.bl1 .len (.var 3)) .nil))) .nil))) [10] ds [] ⟨[.hnd 0, .dat k, .dat mo, .own (rgD 0 10), e4, e5, e6, e7, e8, e9, .un, e11], c :: rest⟩ = .ok (ns.map .int) ⟨[.hnd 0, .dat k, .dat mo, .own (l.map .int), e4, e5, e6, e7, e8, e9, .un, e11], c' :: rest⟩ := by
  intro ds c hc hds
  obtain ⟨ys, s', h1, h2, h3, c', l, h4, h5, h6, h7⟩ := cl_I (tg := .nm 10) (m := den (mdOf T n) (.mut .pop 3 (.cons (.cal "_law_next" (.cons (.var 0) (.cons (.bl1 .len (.var 3)) .nil))) .nil))) (vs := [10]) (N := ds.length) PyData.int (fun i => 0 ≤ i ∧ i ≤ 9) (fun i s => ∃ c l, Dc c ∧ l.length + i = 10 ∧ (∀ j ∈ l, 0 ≤ j ∧ j ≤ 9) ∧ s = ⟨[.hnd 0, .dat k, .dat mo, .own (List.map .int l), e4, e5, e6, e7, e8, e9, .un, e11], c :: rest⟩) ds (fun i hi d hd s hs => by
    obtain ⟨c, l, hc, hl, hj, rfl⟩ := hs
    have h0 : 1 ≤ l.length := by omega
    obtain ⟨v, c', hc', hv, ev⟩ := nxtN (T := T) n hn rest c hc l.length h0 (by omega)
    have hv' : l[v]? = some l[v] := List.getElem?_eq_getElem hv
    refine ⟨_, .dat (.int l[v]), l[v], ⟨[.hnd 0, .dat k, .dat mo, .own (List.map .int (l.eraseIdx v)), e4, e5, e6, e7, e8, e9, .dat d, e11], c' :: rest⟩, rfl, ?_, rfl, hj _ (List.getElem_mem hv), c', l.eraseIdx v, hc', by rw [List.length_eraseIdx_of_lt hv]; omega, fun j hj' => hj j (List.mem_of_mem_eraseIdx hj'), rfl⟩
    have a1 : (v : Int) < l.length := by omega
    have a2 : l.length ≤ 1000 := by omega
    have a3 : (List.map PyData.int l).eraseIdx v = List.map .int (l.eraseIdx v) := eraseIdx_map' _ _ _
    simp [ev, a1, a2, hv, a3]) [] 0 ⟨[.hnd 0, .dat k, .dat mo, .own (rgD 0 10), e4, e5, e6, e7, e8, e9, .un, e11], c :: rest⟩ (by omega) ⟨c, [0, 1, 2, 3, 4, 5, 6, 7, 8, 9], hc, rfl, by decide, rfl⟩
  subst h7
  exact ⟨ys, l, c', h4, h2, h3, by simpa using h1⟩
structure Tab.okm (mo : Nat) (t : Tab) : Prop extends Tab.ok t where
  mo : t.rows.length ≤ mo
def tE (k mo : Nat) (e3 nsl e5 e6 e7 e8 e9 e11 : Sl) : List Sl := [.hnd 0, .dat (.int k), .dat (.int mo), e3, nsl, e5, e6, e7, e8, e9, .un, e11]
def tRow : SoL := (.cons (.asg 11 (.bl1 .tuple (.com (.nm 10) (.rn1 (.var 7)) .nil (.cal "_law_cell" (.cons (.var 0) (.cons (.var 4) .nil))) [("_law_k", 10)]))) (.cons (.exp (.mut .append 8 (.cons (.ite (.bls true (.cons (.cmp .ne (.var 8) (.lst .nil)) (.cons (.cmp .eq (.cal "_law_next" (.cons (.var 0) (.cons (.kon (.int 5)) .nil))) (.kon (.int 0))) .nil))) (.sub (.var 8) (.cal "_law_next" (.cons (.var 0) (.cons (.bl1 .len (.var 8)) .nil)))) (.var 11)) .nil))) .nil))
theorem tRow_ok (n : Nat) (hn : 2 ≤ n) (rest : List Cell) (ns : List Int) (h : Nms ns) (k mo w : Nat) (w1 : 1 ≤ w) (w4 : w ≤ 4) (e3 e5 e6 e9 e11 : Sl) (rows : List (List Cl)) (hr : rows.length ≤ 6) (hw : ∀ r ∈ rows, r.length = w ∧ ∀ c ∈ r, Cl.ok c) (c : Cell) (hc : Dc c) (nsl : Sl) (hs : Lsl (ns.map .int) nsl) :
    ∃ (r : List Cl) (c' : Cell) (nsl' e11' : Sl), Dc c' ∧ Lsl (ns.map .int) nsl' ∧ r.length = w ∧ (∀ c ∈ r, Cl.ok c) ∧
      denSs (mdOf T n) tRow ⟨tE k mo e3 nsl e5 e6 (.dat (.int w)) (.own (rows.map rowD)) e9 e11, c :: rest⟩ = .ok .nx ⟨tE k mo e3 nsl' e5 e6 (.dat (.int w)) (.own ((rows ++ [r]).map rowD)) e9 e11', c' :: rest⟩ := by
  obtain ⟨r, c1, sl1, d1, s1, l1, o1, e1⟩ := row_loop (T := T) n hn rest ns h (.nm 10) 10 0 4 (fun sl => tE k mo e3 sl e5 e6 (.dat (.int w)) (.own (rows.map rowD)) e9 e11) (fun sl d => ⟨_, rfl, rfl, rfl, rfl, rfl, rfl⟩) (rgD 0 w) c nsl hc hs
  have hl : r.length = w := by rw [l1]; simp
  have a1 : (w : Int) ≤ 1000 := by omega
  have a3 : w ≤ 1000 := by omega
  have a4 : r.length ≤ 1000 := by omega
  have hA : denS (mdOf T n) (.asg 11 (.bl1 .tuple (.com (.nm 10) (.rn1 (.var 7)) .nil (.cal "_law_cell" (.cons (.var 0) (.cons (.var 4) .nil))) [("_law_k", 10)]))) ⟨tE k mo e3 nsl e5 e6 (.dat (.int w)) (.own (rows.map rowD)) e9 e11, c :: rest⟩ = .ok .nx ⟨tE k mo e3 sl1 e5 e6 (.dat (.int w)) (.own (rows.map rowD)) e9 (.dat (rowD r)), c1 :: rest⟩ := by
    simp [tE] at e1
    simp [tE, a1, a3, a4, e1, rowD]
  by_cases h0 : rows = []
  · subst h0
    refine ⟨r, c1, sl1, .dat (rowD r), d1, s1, hl, o1, (ss_nx hA).trans (ss_nx (s' := ⟨tE k mo e3 sl1 e5 e6 (.dat (.int w)) (.own [rowD r]) e9 (.dat (rowD r)), c1 :: rest⟩) ?_)⟩
    simp [tE]
  · have hp : 1 ≤ rows.length := List.length_pos_iff.mpr h0
    obtain ⟨v2, c2, d2, a5, b5, e2⟩ := nxt (T := T) n (by omega) rest c1 d1 5 (by omega) (by omega)
    have q1 : PyData.eqvAll (rows.map rowD) [] = false := by
      cases rows with
      | nil => exact absurd rfl h0
      | cons _ _ => simp
    by_cases h5 : v2 = 0
    · obtain ⟨v3, c3, d3, a6, e3'⟩ := nxtN (T := T) n (by omega) rest c2 d2 rows.length hp (by omega)
      have q3 : rows[v3]? = some rows[v3] := List.getElem?_eq_getElem a6
      obtain ⟨z1, z2⟩ := hw _ (List.getElem_mem a6)
      refine ⟨rows[v3], c3, sl1, .dat (rowD r), d3, s1, z1, z2, (ss_nx hA).trans (ss_nx (s' := ⟨tE k mo e3 sl1 e5 e6 (.dat (.int w)) (.own (rows.map rowD ++ [rowD rows[v3]])) e9 (.dat (rowD r)), c3 :: rest⟩) ?_) |>.trans (by simp)⟩
      have a7 : (v3 : Int) < rows.length := by omega
      have a8 : rows.length + 1 ≤ 1000 := by omega
      simp [tE, q1, e2, h5, e3', a7, q3, a8]
    · refine ⟨r, c2, sl1, .dat (rowD r), d2, s1, hl, o1, (ss_nx hA).trans (ss_nx (s' := ⟨tE k mo e3 sl1 e5 e6 (.dat (.int w)) (.own (rows.map rowD ++ [rowD r])) e9 (.dat (rowD r)), c2 :: rest⟩) ?_) |>.trans (by simp)⟩
      have a8 : rows.length + 1 ≤ 1000 := by omega
      simp [tE, q1, e2, h5, a8]
def tTab : SoL := (.cons (.asg 7 (.bin .add (.kon (.int 1)) (.cal "_law_next" (.cons (.var 0) (.cons (.sub (.lst (.cons (.kon (.int 2)) (.cons (.kon (.int 4)) .nil))) (.cal "_law_next" (.cons (.var 0) (.cons (.kon (.int 2)) .nil)))) .nil))))) (.cons (.asg 8 (.lst .nil)) (.cons (.lop (.nm 9) (.rn1 (.cal "_law_next" (.cons (.var 0) (.cons (.bin .add (.var 2) (.kon (.int 1))) .nil)))) tRow) (.cons (.exp (.mut .append 5 (.cons (.tup (.cons (.var 7) (.cons (.var 8) .nil))) .nil))) .nil))))
theorem tTab_ok (n : Nat) (hn : 2 ≤ n) (rest : List Cell) (ns : List Int) (h : Nms ns) (k mo : Nat) (hmo : mo ≤ 6) (ts : List Tab) (ht : ts.length ≤ 3) (e3 e6 e7 e8 e9 e11 : Sl) (c : Cell) (hc : Dc c) (nsl : Sl) (hs : Lsl (ns.map .int) nsl) :
    ∃ (t : Tab) (c' : Cell) (nsl' e7' e8' e9' e11' : Sl), Dc c' ∧ Lsl (ns.map .int) nsl' ∧ t.okm mo ∧
      denSs (mdOf T n) tTab ⟨tE k mo e3 nsl (.own (ts.map Tab.d)) e6 e7 e8 e9 e11, c :: rest⟩ = .ok .nx ⟨tE k mo e3 nsl' (.own ((ts ++ [t]).map Tab.d)) e6 e7' e8' e9' e11', c' :: rest⟩ := by
  obtain ⟨v1, c1, d1, a1, b1, e1⟩ := nxt (T := T) n (by omega) rest c hc 2 (by omega) (by omega)
  obtain ⟨q, hq, lq⟩ : ∃ q : Int, (q = 2 ∨ q = 4) ∧ ∀ (h : v1.toNat < [PyData.int 2, .int 4].length), [PyData.int 2, .int 4][v1.toNat]'h = .int q := by
    have : v1 = 0 ∨ v1 = 1 := by omega
    rcases this with rfl | rfl
    · exact ⟨2, .inl rfl, fun _ => rfl⟩
    · exact ⟨4, .inr rfl, fun _ => rfl⟩
  obtain ⟨v2, c2, d2, a2, b2, e2⟩ := nxt (T := T) n (by omega) rest c1 d1 q (by omega) (by omega)
  obtain ⟨w, hw⟩ : ∃ w : Nat, 1 + v2 = w := ⟨(1 + v2).toNat, by omega⟩
  obtain ⟨v3, c3, d3, a3, b3, e3'⟩ := nxt (T := T) n (by omega) rest c2 d2 (mo + 1) (by omega) (by omega)
  have hA : denS (mdOf T n) (.asg 7 (.bin .add (.kon (.int 1)) (.cal "_law_next" (.cons (.var 0) (.cons (.sub (.lst (.cons (.kon (.int 2)) (.cons (.kon (.int 4)) .nil))) (.cal "_law_next" (.cons (.var 0) (.cons (.kon (.int 2)) .nil)))) .nil))))) ⟨tE k mo e3 nsl (.own (ts.map Tab.d)) e6 e7 e8 e9 e11, c :: rest⟩ = .ok .nx ⟨tE k mo e3 nsl (.own (ts.map Tab.d)) e6 (.dat (.int w)) e8 e9 e11, c2 :: rest⟩ := by
    simp [tE, e1, a1, b1, lq, e2, hw]
  have hB : denS (mdOf T n) (.asg 8 (.lst .nil)) ⟨tE k mo e3 nsl (.own (ts.map Tab.d)) e6 (.dat (.int w)) e8 e9 e11, c2 :: rest⟩ = .ok .nx ⟨tE k mo e3 nsl (.own (ts.map Tab.d)) e6 (.dat (.int w)) (.own ([].map rowD)) e9 e11, c2 :: rest⟩ := by
    simp [tE]
  obtain ⟨s4, f4, rows, c4, nsl4, e94, e114, d4, l4, hl4, hr4, f5⟩ := fl_I (tg := .nm 9) (body := denSs (mdOf T n) tRow) (N := (rgD 0 v3).length) (fun i s => ∃ rows c nsl e9 e11, Dc c ∧ Lsl (ns.map .int) nsl ∧ rows.length = i ∧ (∀ r ∈ rows, r.length = w ∧ ∀ c ∈ r, Cl.ok c) ∧ s = ⟨tE k mo e3 nsl (.own (ts.map Tab.d)) e6 (.dat (.int w)) (.own (rows.map rowD)) e9 e11, c :: rest⟩) (rgD 0 v3) (fun i hi d hd s hs => by
    obtain ⟨rows, c, nsl, e9, e11, hc, hs, hl, hr, rfl⟩ := hs
    have hi' : i < 6 := by simp at hi; omega
    obtain ⟨r, c', nsl', e11', z1, z2, z3, z4, z5⟩ := tRow_ok (T := T) n hn rest ns h k mo w (by omega) (by omega) e3 (.own (ts.map Tab.d)) e6 (.dat d) e11 rows (by omega) hr c hc nsl hs
    refine ⟨tE k mo e3 nsl (.own (ts.map Tab.d)) e6 (.dat (.int w)) (.own (rows.map rowD)) (.dat d) e11, _, rfl, z5, rows ++ [r], c', nsl', .dat d, e11', z1, z2, by simp [hl], (fun r' hr' => by
      rcases List.mem_append.mp hr' with z | z
      · exact hr r' z
      · rw [List.mem_singleton.mp z]; exact ⟨z3, z4⟩), rfl⟩) 0 ⟨tE k mo e3 nsl (.own (ts.map Tab.d)) e6 (.dat (.int w)) (.own ([].map rowD)) e9 e11, c3 :: rest⟩ (by omega) ⟨[], c3, nsl, e9, e11, d3, hs, rfl, (fun r hr => absurd hr (List.not_mem_nil)), rfl⟩
  subst f5
  have hl4' : rows.length ≤ mo := by simp at hl4; omega
  have hC : denS (mdOf T n) (.lop (.nm 9) (.rn1 (.cal "_law_next" (.cons (.var 0) (.cons (.bin .add (.var 2) (.kon (.int 1))) .nil)))) tRow) ⟨tE k mo e3 nsl (.own (ts.map Tab.d)) e6 (.dat (.int w)) (.own ([].map rowD)) e9 e11, c2 :: rest⟩ = .ok .nx ⟨tE k mo e3 nsl4 (.own (ts.map Tab.d)) e6 (.dat (.int w)) (.own (rows.map rowD)) e94 e114, c4 :: rest⟩ := by
    have b4 : v3 ≤ 1000 := by omega
    simp only [tE] at f4
    simp [tE, e3', b4, a3, f4, -List.map_nil]
  have hD : denS (mdOf T n) (.exp (.mut .append 5 (.cons (.tup (.cons (.var 7) (.cons (.var 8) .nil))) .nil))) ⟨tE k mo e3 nsl4 (.own (ts.map Tab.d)) e6 (.dat (.int w)) (.own (rows.map rowD)) e94 e114, c4 :: rest⟩ = .ok .nx ⟨tE k mo e3 nsl4 (.own ((ts ++ [Tab.mk w rows]).map Tab.d)) e6 (.dat (.int w)) (.dat (.list (rows.map rowD))) e94 e114, c4 :: rest⟩ := by
    have b6 : ts.length + 1 ≤ 1000 := by omega
    simp [tE, b6, Tab.d, tabD]
  exact ⟨Tab.mk w rows, c4, nsl4, _, _, e94, e114, d4, l4, ⟨⟨show 1 ≤ w by omega, show w ≤ 4 by omega, show rows.length ≤ 6 by omega, hr4⟩, hl4'⟩, (ss_nx hA).trans ((ss_nx hB).trans ((ss_nx hC).trans (ss_nx hD)))⟩
structure Tabs (mo : Nat) (ts : List Tab) : Prop where
  ok : ∀ t ∈ ts, t.okm mo
  one : 1 ≤ ts.length
  three : ts.length ≤ 3
theorem law_tables (n : Nat) (hn : 3 ≤ n) (rest : List Cell) (k mo : Nat) (hk : 1 ≤ k) (hk9 : k ≤ 9) (hmo : mo ≤ 6) (c : Cell) (hc : Dc c) :
    ∃ (ts : List Tab) (c' : Cell), Dc c' ∧ Tabs mo ts ∧ (mdOf T n).fns "_law_tables" [.hnd 0, .dat (.int k), .dat (.int mo)] (c :: rest) = .ok (.fr (ts.map Tab.d)) ⟨[], c' :: rest⟩ := by
  obtain ⟨n, rfl⟩ : ∃ j, n = j + 1 := ⟨n - 1, by omega⟩
  rw [fns__law_tables]
  have hA : denS (mdOf T n) (.asg 3 (.lrg (.kon (.int 10)))) ⟨[.hnd 0, .dat (.int k), .dat (.int mo), .un, .un, .un, .un, .un, .un, .un, .un, .un], c :: rest⟩ = .ok .nx ⟨[.hnd 0, .dat (.int k), .dat (.int mo), .own (rgD 0 10), .un, .un, .un, .un, .un, .un, .un, .un], c :: rest⟩ := by
    simp
  obtain ⟨v1, c1, d1, a1, e1⟩ := nxtN (T := T) n (by omega) rest c hc k hk (by omega)
  obtain ⟨ns, l, c2, d2, l2, o2, e2⟩ := pop_names (T := T) n (by omega) rest (.int k) (.int mo) .un .un .un .un .un .un .un (rgD 0 (1 + v1)) c1 d1 (by simp; omega)
  have hN : Nms ns := ⟨fun z => by rw [z] at l2; simp at l2; omega, o2, by rw [l2]; simp; omega⟩
  have hB : denS (mdOf T n) (.asg 4 (.com (.nm 10) (.rn1 (.bin .add (.kon (.int 1)) (.cal "_law_next" (.cons (.var 0) (.cons (.var 1) .nil))))) .nil (.mut .pop 3 (.cons (.cal "_law_next" (.cons (.var 0) (.cons (.bl1 .len (.var 3)) .nil))) .nil)) [("_law_k", 10)])) ⟨[.hnd 0, .dat (.int k), .dat (.int mo), .own (rgD 0 10), .un, .un, .un, .un, .un, .un, .un, .un], c :: rest⟩ = .ok .nx ⟨tE k mo (.own (l.map .int)) (.own (ns.map .int)) .un .un .un .un .un .un, c2 :: rest⟩ := by
    have b4 : 1 + (v1 : Int) ≤ 1000 := by omega
    have b5 : 0 ≤ 1 + (v1 : Int) := by omega
    have b6 : (1 + (v1 : Int)).toNat ≤ 1000 := by omega
    simp at e2
    simp [tE, e1, b4, b5, b6, e2]
  have hC : denS (mdOf T n) (.asg 5 (.lst .nil)) ⟨tE k mo (.own (l.map .int)) (.own (ns.map .int)) .un .un .un .un .un .un, c2 :: rest⟩ = .ok .nx ⟨tE k mo (.own (l.map .int)) (.own (ns.map .int)) (.own ([].map Tab.d)) .un .un .un .un .un, c2 :: rest⟩ := by
    simp [tE]
  obtain ⟨v3, c3, d3, a3, b3, e3⟩ := nxt (T := T) n (by omega) rest c2 d2 3 (by omega) (by omega)
  obtain ⟨s4, f4, ts, c4, nsl4, e6, e7, e8, e9, e11, d4, l4, hl4, hr4, f5⟩ := fl_I (tg := .nm 6) (body := denSs (mdOf T n) tTab) (N := (rgD 0 (1 + v3)).length) (fun i s => ∃ ts c nsl e6 e7 e8 e9 e11, Dc c ∧ Lsl (ns.map .int) nsl ∧ ts.length = i ∧ (∀ t ∈ ts, Tab.okm mo t) ∧ s = ⟨tE k mo (.own (l.map .int)) nsl (.own (ts.map Tab.d)) e6 e7 e8 e9 e11, c :: rest⟩) (rgD 0 (1 + v3)) (fun i hi d hd s hs => by
    obtain ⟨ts, c, nsl, e6, e7, e8, e9, e11, hc, hs, hl, hr, rfl⟩ := hs
    have hi' : i < 3 := by simp at hi; omega
    obtain ⟨t, c', nsl', e7', e8', e9', e11', z1, z2, z3, z5⟩ := tTab_ok (T := T) n (by omega) rest ns hN k mo hmo ts (by omega) (.own (l.map .int)) (.dat d) e7 e8 e9 e11 c hc nsl hs
    refine ⟨tE k mo (.own (l.map .int)) nsl (.own (ts.map Tab.d)) (.dat d) e7 e8 e9 e11, _, rfl, z5, ts ++ [t], c', nsl', .dat d, e7', e8', e9', e11', z1, z2, by simp [hl], (fun r' hr' => by
      rcases List.mem_append.mp hr' with z | z
      · exact hr r' z
      · rw [List.mem_singleton.mp z]; exact z3), rfl⟩) 0 ⟨tE k mo (.own (l.map .int)) (.own (ns.map .int)) (.own ([].map Tab.d)) .un .un .un .un .un, c3 :: rest⟩ (by omega) ⟨[], c3, .own (ns.map .int), .un, .un, .un, .un, .un, d3, .inl rfl, rfl, (fun r hr => absurd hr (List.not_mem_nil)), rfl⟩
  subst f5
  have hD : denS (mdOf T n) (.lop (.nm 6) (.rn1 (.bin .add (.kon (.int 1)) (.cal "_law_next" (.cons (.var 0) (.cons (.kon (.int 3)) .nil))))) tTab) ⟨tE k mo (.own (l.map .int)) (.own (ns.map .int)) (.own ([].map Tab.d)) .un .un .un .un .un, c2 :: rest⟩ = .ok .nx ⟨tE k mo (.own (l.map .int)) nsl4 (.own (ts.map Tab.d)) e6 e7 e8 e9 e11, c4 :: rest⟩ := by
    have b4 : 1 + v3 ≤ 1000 := by omega
    have b5 : 0 ≤ 1 + v3 := by omega
    simp only [tE] at f4
    simp [tE, e3, b4, b5, f4, -List.map_nil]
  have hE : denS (mdOf T n) (.mov 5) ⟨tE k mo (.own (l.map .int)) nsl4 (.own (ts.map Tab.d)) e6 e7 e8 e9 e11, c4 :: rest⟩ = .ok (.ret (.fr (ts.map Tab.d))) ⟨tE k mo (.own (l.map .int)) nsl4 .un e6 e7 e8 e9 e11, c4 :: rest⟩ := by
    simp [tE]
  have hl : 1 ≤ ts.length ∧ ts.length ≤ 3 := by simp at hl4; omega
  refine ⟨ts, c4, d4, ⟨hr4, hl.1, hl.2⟩, ?_⟩
  exact run_ret (d := d__law_tables) (args := [.hnd 0, .dat (.int k), .dat (.int mo)]) (m := c :: rest) rfl rfl ((ss_nx hA).trans ((ss_nx hB).trans ((ss_nx hC).trans ((ss_nx hD).trans (ss_ret hE)))))
end
end Gq
end

section
namespace Gq
open PySem PySem.Spec L2
variable {T : Tb}
inductive Sn where | rows (t : Nat) | keep (s : Sn) (c : Cd) | pick (s : Sn) (cs : List Nat) | join (a b : Sn) (ps : List (Nat × Nat)) | both (a b : Sn) | without (a b : Sn)
def natD (i : Nat) : D := .int i
def prD (p : Nat × Nat) : D := .tuple [.int p.1, .int p.2]
def Sn.d : Sn → D
  | .rows t => .tuple [.str "rows", .int t]
  | .keep s c => .tuple [.str "keep", s.d, c.d]
  | .pick s cs => .tuple [.str "pick", s.d, .tuple (cs.map natD)]
  | .join a b ps => .tuple [.str "join", a.d, b.d, .tuple (ps.map prD)]
  | .both a b => .tuple [.str "both", a.d, b.d]
  | .without a b => .tuple [.str "without", a.d, b.d]
def Sn.wid (ws : List Nat) : Sn → Nat
  | .rows t => ws.getD t 0
  | .keep s _ => s.wid ws
  | .pick _ cs => cs.length
  | .join a b _ => a.wid ws + b.wid ws
  | .both a _ => a.wid ws
  | .without a _ => a.wid ws
def Sn.ok (ws : List Nat) : Sn → Prop
  | .rows t => t < ws.length
  | .keep s c => s.ok ws ∧ c.ok (s.wid ws)
  | .pick s cs => s.ok ws ∧ 1 ≤ cs.length ∧ cs.length ≤ 8 ∧ ∀ i ∈ cs, i < s.wid ws
  | .join a b ps => a.ok ws ∧ b.ok ws ∧ a.wid ws + b.wid ws ≤ 8 ∧ ∀ p ∈ ps, p.1 < a.wid ws ∧ p.2 < b.wid ws
  | .both a b => a.ok ws ∧ b.ok ws ∧ a.wid ws = b.wid ws
  | .without a b => a.ok ws ∧ b.ok ws ∧ a.wid ws = b.wid ws
def Sn.deep : Sn → Nat
  | .rows _ => 0
  | .keep s c => max s.deep c.deep + 1
  | .pick s _ => s.deep + 1
  | .join a b _ => max a.deep b.deep + 1
  | .both a b => max a.deep b.deep + 1
  | .without a b => max a.deep b.deep + 1
def Sn.size : Sn → Nat
  | .rows _ => 1
  | .keep s c => s.size + c.size + 1
  | .pick s _ => s.size + 1
  | .join a b _ => a.size + b.size + 1
  | .both a b => a.size + b.size + 1
  | .without a b => a.size + b.size + 1
abbrev SENTS : D := .tuple [.tuple [.str "rows", .int 1], .tuple [.str "keep", .int 2], .tuple [.str "pick", .int 2], .tuple [.str "join", .int 3], .tuple [.str "both", .int 2], .tuple [.str "without", .int 2]]
theorem all_true {me : Mo Vl} {m : List Cell} : ∀ (ds : List D) (e : List Sl), (∀ d ∈ ds, ∃ e', me ⟨[.dat d], m⟩ = .ok (.dat (.bool true)) ⟨e', m⟩) → allLoop me ds ⟨e, m⟩ = .ok (.dat (.bool true)) ⟨e, m⟩ := by
  intro ds
  induction ds with
  | nil => intro e h; rfl
  | cons d ds ih =>
    intro e h
    obtain ⟨e', h1⟩ := h d List.mem_cons_self
    unfold allLoop
    show (match me ⟨[.dat d], m⟩ with | .ok (.dat (.bool true)) s' => _ | .ok (.dat (.bool false)) s' => _ | _ => _) = _
    rw [h1]
    exact ih e fun d hd => h d (List.mem_cons_of_mem _ hd)
section
variable [CLookS T]
theorem shape_sn (n : Nat) (hn : 1 ≤ n) (m : List Cell) (x : Sn) : (mdOf T n).fns "has_shape" [.dat x.d, .dat SENTS] m = .ok (.dat (.bool true)) ⟨[], m⟩ := by
  obtain ⟨n, rfl⟩ : ∃ j, n = j + 1 := ⟨n - 1, by omega⟩
  rw [fns_has_shape]
  cases x <;> simp [d_has_shape, Sn.d]
theorem are_numbers_ok (n : Nat) (hn : 2 ≤ n) (m : List Cell) (cs : List Nat) : (mdOf T n).fns "are_numbers" [.dat (.tuple (cs.map natD))] m = .ok (.dat (.bool true)) ⟨[], m⟩ := by
  obtain ⟨n, rfl⟩ : ∃ j, n = j + 2 := ⟨n - 2, by omega⟩
  rw [fns_are_numbers]
  have k := all_true (me := den (mdOf T (n+1)) (.cal "is_number" (.cons (.var 0) .nil))) (m := m) (cs.map natD) [.dat (.tuple (cs.map natD))] (fun d hd => by
    obtain ⟨i, _, rfl⟩ := List.mem_map.mp hd
    refine ⟨[.dat (natD i)], ?_⟩
    simp [natD, is_number_ok])
  simp at k
  simp [d_are_numbers, k]
theorem is_pair_ok (n : Nat) (hn : 3 ≤ n) (m : List Cell) (p : Nat × Nat) : (mdOf T n).fns "is_pair" [.dat (prD p)] m = .ok (.dat (.bool true)) ⟨[], m⟩ := by
  obtain ⟨n, rfl⟩ : ∃ j, n = j + 1 := ⟨n - 1, by omega⟩
  rw [fns_is_pair]
  have k := are_numbers_ok (T := T) n (by omega) m [p.1, p.2]
  simp [natD] at k
  simp [d_is_pair, prD, k]
theorem are_pairs_ok (n : Nat) (hn : 4 ≤ n) (m : List Cell) (ps : List (Nat × Nat)) : (mdOf T n).fns "are_pairs" [.dat (.tuple (ps.map prD))] m = .ok (.dat (.bool true)) ⟨[], m⟩ := by
  obtain ⟨n, rfl⟩ : ∃ j, n = j + 1 := ⟨n - 1, by omega⟩
  rw [fns_are_pairs]
  have k := all_true (me := den (mdOf T n) (.cal "is_pair" (.cons (.var 0) .nil))) (m := m) (ps.map prD) [.dat (.tuple (ps.map prD))] (fun d hd => by
    obtain ⟨i, _, rfl⟩ := List.mem_map.mp hd
    refine ⟨[.dat (prD i)], ?_⟩
    have := is_pair_ok (T := T) n (by omega) m i
    simp [this])
  simp at k
  simp [d_are_pairs, k]
theorem told_ok (n : Nat) (hn : 5 ≤ n) (m : List Cell) (x : Sn) : (mdOf T n).fns "is_told_rightly" [.dat x.d] m = .ok (.dat (.bool true)) ⟨[], m⟩ := by
  obtain ⟨n, rfl⟩ : ∃ j, n = j + 1 := ⟨n - 1, by omega⟩
  obtain ⟨k, hk⟩ : ∃ k, n = k + 1 := ⟨n - 1, by omega⟩
  rw [fns_is_told_rightly]
  cases x with
  | rows t => simp [d_is_told_rightly, Sn.d, hk, is_number_ok]
  | keep s c => simp [d_is_told_rightly, Sn.d]
  | pick s cs => simp [d_is_told_rightly, Sn.d, are_numbers_ok (T := T) n (by omega)]
  | join a b ps => simp [d_is_told_rightly, Sn.d, are_pairs_ok (T := T) n (by omega)]
  | both a b => simp [d_is_told_rightly, Sn.d]
  | without a b => simp [d_is_told_rightly, Sn.d]
theorem table_width_ok (n : Nat) (hn : 1 ≤ n) (m : List Cell) (ws : List Nat) (t : Nat) (ht : t < ws.length) (at_ : D) : (mdOf T n).fns "table_width" [.dat (.int t), .dat (.list (ws.map natD)), .dat at_] m = .ok (.dat (.int (ws.getD t 0 : Nat))) ⟨[], m⟩ := by
  obtain ⟨n, rfl⟩ : ∃ j, n = j + 1 := ⟨n - 1, by omega⟩
  rw [fns_table_width]
  have h1 : (t : Int) < ws.length := by omega
  have h2 : ws[t]? = some ws[t] := List.getElem?_eq_getElem ht
  simp [d_table_width, h1, h2, natD, List.getD]
def pwBody : SoL := .cons (.iff (.not (.chn .le .lt (.kon (.int 0)) (.var 3) (.var 1))) (.cons .nev .nil) .nil) .nil
theorem pick_width_ok (n : Nat) (hn : 1 ≤ n) (m : List Cell) (cs : List Nat) (w : Nat) (h1 : 1 ≤ cs.length) (h8 : cs.length ≤ 8) (hw : ∀ i ∈ cs, i < w) (at_ : D) : (mdOf T n).fns "pick_width" [.dat (.tuple (cs.map natD)), .dat (.int w), .dat at_] m = .ok (.dat (.int cs.length)) ⟨[], m⟩ := by
  obtain ⟨n, rfl⟩ : ∃ j, n = j + 1 := ⟨n - 1, by omega⟩
  rw [fns_pick_width]
  have a1 : (1 : Int) ≤ cs.length := by omega
  have a2 : (cs.length : Int) ≤ 8 := by omega
  obtain ⟨s', e, x, rfl⟩ := fl_inv (tg := .nm 3) (body := denSs (mdOf T n) pwBody) (ds := cs.map natD) (fun s => ∃ x, s = ⟨[.dat (.tuple (cs.map natD)), .dat (.int w), .dat at_, x], m⟩) (fun d hd s hs => by
    obtain ⟨x, rfl⟩ := hs
    obtain ⟨i, hi, rfl⟩ := List.mem_map.mp hd
    have : (i : Int) < w := by have := hw i hi; omega
    refine ⟨_, _, rfl, ?_, .dat (natD i), rfl⟩
    simp [pwBody, natD, this]) ⟨[.dat (.tuple (cs.map natD)), .dat (.int w), .dat at_, .un], m⟩ ⟨.un, rfl⟩
  simp [pwBody] at e
  simp [d_pick_width, a1, a2, e]
def jwBody : SoL := .cons (.iff (.bls false (.cons (.not (.chn .le .lt (.kon (.int 0)) (.var 4) (.var 0))) (.cons (.not (.chn .le .lt (.kon (.int 0)) (.var 5) (.var 1))) .nil))) (.cons .nev .nil) .nil) .nil
theorem join_width_ok (n : Nat) (hn : 1 ≤ n) (m : List Cell) (ps : List (Nat × Nat)) (v w : Nat) (h8 : v + w ≤ 8) (hw : ∀ p ∈ ps, p.1 < v ∧ p.2 < w) (at_ : D) : (mdOf T n).fns "join_width" [.dat (.int v), .dat (.int w), .dat (.tuple (ps.map prD)), .dat at_] m = .ok (.dat (.int (v + w : Nat))) ⟨[], m⟩ := by
  obtain ⟨n, rfl⟩ : ∃ j, n = j + 1 := ⟨n - 1, by omega⟩
  rw [fns_join_width]
  have a1 : ¬ (8 : Int) < (v : Int) + w := by omega
  obtain ⟨s', e, x, y, rfl⟩ := fl_inv (tg := .tp [4, 5]) (body := denSs (mdOf T n) jwBody) (ds := ps.map prD) (fun s => ∃ x y, s = ⟨[.dat (.int v), .dat (.int w), .dat (.tuple (ps.map prD)), .dat at_, x, y], m⟩) (fun d hd s hs => by
    obtain ⟨x, y, rfl⟩ := hs
    obtain ⟨i, hi, rfl⟩ := List.mem_map.mp hd
    have b1 : (i.1 : Int) < v := by have := (hw i hi).1; omega
    have b2 : (i.2 : Int) < w := by have := (hw i hi).2; omega
    refine ⟨_, _, rfl, ?_, .dat (.int i.1), .dat (.int i.2), rfl⟩
    simp [jwBody, b1, b2]) ⟨[.dat (.int v), .dat (.int w), .dat (.tuple (ps.map prD)), .dat at_, .un, .un], m⟩ ⟨.un, .un, rfl⟩
  simp [jwBody] at e
  simp [d_join_width, a1, e]
end
end Gq
end

section
namespace Gq
open PySem PySem.Spec L2
variable {T : Tb}
section
variable [CLookS T]
theorem look_sn (ws : List Nat) (x : Sn) : ∀ (k : Nat) (m : List Cell) (h : Nat) (c : Int), x.deep ≤ k → m[h]? = some (tally c) → c + x.size ≤ 60 → x.ok ws → (mdOf T (k+6)).fns "look_at_sentence" [.dat x.d, .dat (.list (ws.map natD)), .hnd h] m = .ok (.dat (.int (x.wid ws))) ⟨[], m.set h (tally (c + x.size))⟩ := by
  have lift : ∀ (x : Sn) (k : Nat) (m : List Cell) (h : Nat) (c : Int), m[h]? = some (tally c) → c + x.size ≤ 60 → (0:Nat) < x.size →
      m[h]? = some (.ins "Tally" [("met", .int c)]) ∧ c < 60 ∧ h < m.length ∧ (mdOf T (k+5)).fns "has_shape" [.dat x.d, .dat SENTS] (m.set h (tally (c + 1))) = .ok (.dat (.bool true)) ⟨[], m.set h (tally (c + 1))⟩ ∧ (mdOf T (k+5)).fns "is_told_rightly" [.dat x.d] (m.set h (tally (c + 1))) = .ok (.dat (.bool true)) ⟨[], m.set h (tally (c + 1))⟩ := fun x k m h c hm hc hp =>
    ⟨hm, by omega, (List.getElem?_eq_some_iff.mp hm).1, shape_sn (T := T) _ (by omega) _ _, told_ok (T := T) _ (by omega) _ _⟩
  induction x with
  | rows t =>
    intro k m h c hk hm hc ho
    obtain ⟨hm', hc', hl, s1, s2⟩ := lift (.rows t) k m h c hm hc (by show 0 < 1; omega)
    simp [Sn.d] at s1 s2
    have e1 := table_width_ok (T := T) (k+5) (by omega) (m.set h (tally (c + 1))) ws t ho (.int c)
    rw [fns_look_at_sentence]
    simp [d_look_at_sentence, Sn.d, hm', another_ok _ _ _ _ hm hc', s1, s2, e1, Sn.size, Sn.wid]
  | keep x y ihx =>
    intro k m h c hk hm hc ho
    have hs : (Sn.keep x y).size = x.size + y.size + 1 := rfl
    have hd : (Sn.keep x y).deep = max x.deep y.deep + 1 := rfl
    obtain ⟨hm', hc', hl, s1, s2⟩ := lift (.keep x y) k m h c hm hc (by omega)
    simp [Sn.d] at s1 s2
    rw [hs] at hc ⊢
    rw [hd] at hk
    obtain ⟨k, rfl⟩ : ∃ j, k = j + 1 := ⟨k - 1, by omega⟩
    have e1 := ihx k (m.set h (tally (c + 1))) h (c + 1) (by omega) (by rw [List.getElem?_set_self hl]) (by omega) ho.1
    have e2 := look_cd (T := T) y (k+1) (m.set h (tally (c + 1 + x.size))) h (x.wid ws) (c + 1 + x.size) (by omega) (by rw [List.getElem?_set_self hl]) (by omega) ho.2
    rw [List.set_set] at e1 e2
    rw [fns_look_at_sentence]
    simp [d_look_at_sentence, Sn.d, hm', another_ok _ _ _ _ hm hc', s1, s2, e1, e2, Sn.wid]
    congr 2
    omega
  | pick x cs ihx =>
    intro k m h c hk hm hc ho
    have hs : (Sn.pick x cs).size = x.size + 1 := rfl
    have hd : (Sn.pick x cs).deep = x.deep + 1 := rfl
    obtain ⟨hm', hc', hl, s1, s2⟩ := lift (.pick x cs) k m h c hm hc (by omega)
    simp [Sn.d] at s1 s2
    rw [hs] at hc ⊢
    rw [hd] at hk
    obtain ⟨k, rfl⟩ : ∃ j, k = j + 1 := ⟨k - 1, by omega⟩
    have e1 := ihx k (m.set h (tally (c + 1))) h (c + 1) (by omega) (by rw [List.getElem?_set_self hl]) (by omega) ho.1
    have e2 := pick_width_ok (T := T) (k+1+5) (by omega) (m.set h (tally (c + 1 + x.size))) cs (x.wid ws) ho.2.1 ho.2.2.1 ho.2.2.2 (.int c)
    rw [List.set_set] at e1
    rw [fns_look_at_sentence]
    simp [d_look_at_sentence, Sn.d, hm', another_ok _ _ _ _ hm hc', s1, s2, e1, e2, Sn.wid]
    congr 2
    omega
  | join x y ps ihx ihy =>
    intro k m h c hk hm hc ho
    have hs : (Sn.join x y ps).size = x.size + y.size + 1 := rfl
    have hd : (Sn.join x y ps).deep = max x.deep y.deep + 1 := rfl
    obtain ⟨hm', hc', hl, s1, s2⟩ := lift (.join x y ps) k m h c hm hc (by omega)
    simp [Sn.d] at s1 s2
    rw [hs] at hc ⊢
    rw [hd] at hk
    obtain ⟨k, rfl⟩ : ∃ j, k = j + 1 := ⟨k - 1, by omega⟩
    have e1 := ihx k (m.set h (tally (c + 1))) h (c + 1) (by omega) (by rw [List.getElem?_set_self hl]) (by omega) ho.1
    have e2 := ihy k (m.set h (tally (c + 1 + x.size))) h (c + 1 + x.size) (by omega) (by rw [List.getElem?_set_self hl]) (by omega) ho.2.1
    have e3 := join_width_ok (T := T) (k+1+5) (by omega) (m.set h (tally (c + 1 + x.size + y.size))) ps (x.wid ws) (y.wid ws) ho.2.2.1 ho.2.2.2 (.int c)
    rw [List.set_set] at e1 e2
    rw [fns_look_at_sentence]
    simp [d_look_at_sentence, Sn.d, hm', another_ok _ _ _ _ hm hc', s1, s2, e1, e2, e3, Sn.wid]
    congr 2
    omega
  | both x y ihx ihy =>
    intro k m h c hk hm hc ho
    have hs : (Sn.both x y).size = x.size + y.size + 1 := rfl
    have hd : (Sn.both x y).deep = max x.deep y.deep + 1 := rfl
    obtain ⟨hm', hc', hl, s1, s2⟩ := lift (.both x y) k m h c hm hc (by omega)
    simp [Sn.d] at s1 s2
    rw [hs] at hc ⊢
    rw [hd] at hk
    obtain ⟨k, rfl⟩ : ∃ j, k = j + 1 := ⟨k - 1, by omega⟩
    have e1 := ihx k (m.set h (tally (c + 1))) h (c + 1) (by omega) (by rw [List.getElem?_set_self hl]) (by omega) ho.1
    have e2 := ihy k (m.set h (tally (c + 1 + x.size))) h (c + 1 + x.size) (by omega) (by rw [List.getElem?_set_self hl]) (by omega) ho.2.1
    rw [List.set_set] at e1 e2
    rw [ho.2.2] at e1
    rw [fns_look_at_sentence]
    simp [d_look_at_sentence, Sn.d, hm', another_ok _ _ _ _ hm hc', s1, s2, e1, e2, Sn.wid, ho.2.2]
    congr 2
    omega
  | without x y ihx ihy =>
    intro k m h c hk hm hc ho
    have hs : (Sn.without x y).size = x.size + y.size + 1 := rfl
    have hd : (Sn.without x y).deep = max x.deep y.deep + 1 := rfl
    obtain ⟨hm', hc', hl, s1, s2⟩ := lift (.without x y) k m h c hm hc (by omega)
    simp [Sn.d] at s1 s2
    rw [hs] at hc ⊢
    rw [hd] at hk
    obtain ⟨k, rfl⟩ : ∃ j, k = j + 1 := ⟨k - 1, by omega⟩
    have e1 := ihx k (m.set h (tally (c + 1))) h (c + 1) (by omega) (by rw [List.getElem?_set_self hl]) (by omega) ho.1
    have e2 := ihy k (m.set h (tally (c + 1 + x.size))) h (c + 1 + x.size) (by omega) (by rw [List.getElem?_set_self hl]) (by omega) ho.2.1
    rw [List.set_set] at e1 e2
    rw [ho.2.2] at e1
    rw [fns_look_at_sentence]
    simp [d_look_at_sentence, Sn.d, hm', another_ok _ _ _ _ hm hc', s1, s2, e1, e2, Sn.wid, ho.2.2]
    congr 2
    omega
theorem check_sn (ws : List Nat) (x : Sn) (n : Nat) (hn : x.deep + 7 ≤ n) (m : List Cell) (hc : x.size ≤ 60) (ho : x.ok ws) : ∃ t, (mdOf T n).fns "check_sentence" [.dat x.d, .dat (.list (ws.map natD))] m = .ok (.dat (.int (x.wid ws))) ⟨[], m ++ [t]⟩ := by
  obtain ⟨k, rfl⟩ : ∃ k, n = k + 7 := ⟨n - 7, by omega⟩
  have e1 : (mdOf T (k + 6)).ini "Tally" [.hnd m.length] (m ++ [.ins "Tally" []]) = .ok (.dat .none) ⟨[], m ++ [tally 0]⟩ := by
    rw [show k + 6 = (k + 5) + 1 from rfl, fns_Tally_init]
    simp [d_Tally_init, tally]
  have e2 := look_sn (T := T) ws x k (m ++ [tally 0]) m.length 0 (by omega) (by simp) (by omega) ho
  rw [List.set_append_right _ _ (Nat.le_refl _)] at e2
  simp at e2
  refine ⟨tally x.size, ?_⟩
  rw [fns_check_sentence]
  simp [d_check_sentence, e1, e2]
end
section
variable [COver T]
theorem check_over (ts : List Tab) (mo : Nat) (ht : Tabs mo ts) (x : Sn) (n : Nat) (hn : x.deep + 8 ≤ n) (m : List Cell) (hc : x.size ≤ 60) (ho : x.ok (ts.map Tab.w)) : ∃ t, (mdOf T n).fns "check_over_tables" [.dat x.d, .dat (tabsD ts)] m = .ok (.dat (.int (x.wid (ts.map Tab.w)))) ⟨[], m ++ [t]⟩ := by
  obtain ⟨k, rfl⟩ : ∃ k, n = k + 8 := ⟨n - 8, by omega⟩
  obtain ⟨t, e⟩ := check_sn (T := T) (ts.map Tab.w) x (k+7) (by omega) m hc ho
  have e1 := check_tables_ok (T := T) k m ts (fun t h => ⟨(ht.ok t h).w1, (ht.ok t h).w4, (ht.ok t h).few, (ht.ok t h).row⟩) ht.one ht.three
  have e2 := widths_ok (T := T) (k+6) m ts ht.three
  have e3 : (ts.map Tab.w).map natD = ts.map fun t => PyData.int t.w := by simp [natD]
  rw [e3] at e
  refine ⟨t, ?_⟩
  rw [fns_check_over_tables]
  simp [d_check_over_tables, e, e1, e2]
end
end Gq
end

section
namespace Gq
open PySem PySem.Spec L2
variable {T : Tb}
abbrev Tv := Option Bool
abbrev Rt := List Cl × Tv
def rtD (p : Rt) : D := .tuple [rowD p.1, tvD p.2]
def nf (l : List Rt) : List Rt := l.filter fun p => p.2 != some false
def keepR (l : List Rt) (c : Cd) : List Rt := nf (l.map fun p => (p.1, oAnd p.2 (c.tv p.1)))
def pickRow (cs : List Nat) (r : List Cl) : List Cl := cs.map fun i => r.getD i (.num 0)
def pickR (l : List Rt) (cs : List Nat) : List Rt := l.map fun p => (pickRow cs p.1, p.2)
def Cl.same (a b : Cl) : Tv := a.wv.same b.wv
def at0 (r : List Cl) (i : Nat) : Cl := r.getD i (.num 0)
def pairsT (r q : List Cl) (ps : List (Nat × Nat)) : Tv := ps.foldl (fun t p => oAnd t ((at0 r p.1).same (at0 q p.2))) (some true)
def joinR (l k : List Rt) (ps : List (Nat × Nat)) : List Rt := nf (l.flatMap fun p => k.map fun q => (p.1 ++ q.1, oAnd (oAnd p.2 q.2) (pairsT p.1 q.1 ps)))
def sameT (r q : List Cl) : Tv := (r.zip q).foldl (fun t p => oAnd t (p.1.same p.2)) (some true)
def amongT (r : List Cl) (k : List Rt) : Tv := k.foldl (fun t q => oOr t (oAnd q.2 (sameT r q.1))) (some false)
def withoutR (l k : List Rt) : List Rt := nf (l.map fun p => (p.1, oAnd p.2 (oNot (amongT p.1 k))))
def Sn.told (ts : List Tab) : Sn → List Rt
  | .rows t => ((ts[t]?.map Tab.rows).getD []).map fun r => (r, some true)
  | .keep s c => keepR (s.told ts) c
  | .pick s cs => pickR (s.told ts) cs
  | .join a b ps => joinR (a.told ts) (b.told ts) ps
  | .both a b => a.told ts ++ b.told ts
  | .without a b => withoutR (a.told ts) (b.told ts)
theorem wvC (c : Cl) : c.wv.d = c.d := Cl.wvd c
section
variable [CTru T]
theorem same_cl (n : Nat) (hn : 2 ≤ n) (m : List Cell) (x y : Cl) : (mdOf T n).fns "same" [.dat x.d, .dat y.d] m = .ok (.dat (tvD (x.same y))) ⟨[], m⟩ := by
  obtain ⟨n, rfl⟩ : ∃ j, n = j + 2 := ⟨n - 2, by omega⟩
  have := same_ok (T := T) n m x.wv y.wv
  rw [wvC, wvC] at this
  exact this
theorem both_tv (n : Nat) (hn : 1 ≤ n) (m : List Cell) (x y : Tv) : (mdOf T n).fns "of_both" [.dat (tvD x), .dat (tvD y)] m = .ok (.dat (tvD (oAnd x y))) ⟨[], m⟩ := by
  obtain ⟨n, rfl⟩ : ∃ j, n = j + 1 := ⟨n - 1, by omega⟩
  exact both_ok n m x y
theorem either_tv (n : Nat) (hn : 1 ≤ n) (m : List Cell) (x y : Tv) : (mdOf T n).fns "of_either" [.dat (tvD x), .dat (tvD y)] m = .ok (.dat (tvD (oOr x y))) ⟨[], m⟩ := by
  obtain ⟨n, rfl⟩ : ∃ j, n = j + 1 := ⟨n - 1, by omega⟩
  exact either_ok n m x y
theorem opp_tv (n : Nat) (hn : 1 ≤ n) (m : List Cell) (x : Tv) : (mdOf T n).fns "opposite" [.dat (tvD x)] m = .ok (.dat (tvD (oNot x))) ⟨[], m⟩ := by
  obtain ⟨n, rfl⟩ : ∃ j, n = j + 1 := ⟨n - 1, by omega⟩
  exact opp_ok n m x
theorem truth_tv (r : List Cl) (x : Cd) (n : Nat) (hn : x.deep + 4 ≤ n) (m : List Cell) (ho : x.ok r.length) : (mdOf T n).fns "truth_of" [.dat x.d, .dat (rowD r)] m = .ok (.dat (tvD (x.tv r))) ⟨[], m⟩ := by
  obtain ⟨n, rfl⟩ : ∃ j, n = j + 4 := ⟨n - 4, by omega⟩
  exact truth_ok r x n m (by omega) ho
end
theorem tv_isnot (x : Tv) : cIs true (tvD x) (.bool false) = some (.dat (.bool (x != some false))) ∨ x = none := by
  rcases x with _ | b
  · exact .inr rfl
  · exact .inl (by cases b <;> rfl)
@[simp] theorem tv_isnot' (x : Tv) : cIs true (tvD x) (.bool false) = some (.dat (.bool (x != some false))) := by
  rcases x with _ | b
  · rfl
  · cases b <;> rfl
section
variable [CRows T]
theorem not_false_ok (n : Nat) (hn : 1 ≤ n) (m : List Cell) (l : List Rt) (hl : Sp.Lim l.length) : (mdOf T n).fns "not_false" [.dat (.list (l.map rtD))] m = .ok (.fr ((nf l).map rtD)) ⟨[], m⟩ := by
  obtain ⟨n, rfl⟩ : ∃ j, n = j + 1 := ⟨n - 1, by omega⟩
  rw [fns_not_false]
  have e := cl_filt (tg := .tp [1, 2]) (t := denT (mdOf T n) (.cmp .isnot (.var 2) (.kon (.bool false)))) (m := den (mdOf T n) (.tup (.cons (.var 1) (.cons (.var 2) .nil)))) (vs := [1, 2]) rtD (fun p => p.2 != some false) rtD [.dat (.list (l.map rtD)), .un, .un] m l (fun p hp => by
    refine ⟨_, [.dat (.list (l.map rtD)), .dat (rowD p.1), .dat (tvD p.2)], rfl, ?_, fun _ => rfl, fun _ => ⟨.dat (rtD p), [.dat (.list (l.map rtD)), .dat (rowD p.1), .dat (tvD p.2)], ?_, rfl, rfl⟩⟩
    · simp
    · simp [rtD]) []
  simp at e
  simp [d_not_false, hl, e, nf]
theorem kept_ok (n : Nat) (m : List Cell) (l : List Rt) (hl : Sp.Lim l.length) (c : Cd) (hn : c.deep + 5 ≤ n) (w : Nat) (hw : ∀ p ∈ l, p.1.length = w) (ho : c.ok w) : (mdOf T n).fns "kept" [.dat (.list (l.map rtD)), .dat c.d] m = .ok (.fr ((keepR l c).map rtD)) ⟨[], m⟩ := by
  obtain ⟨n, rfl⟩ : ∃ j, n = j + 1 := ⟨n - 1, by omega⟩
  rw [fns_kept]
  have e := cl_map (tg := .tp [2, 3]) (m := den (mdOf T n) (.tup (.cons (.var 2) (.cons (.cal "of_both" (.cons (.var 3) (.cons (.cal "truth_of" (.cons (.var 1) (.cons (.var 2) .nil))) .nil))) .nil)))) (vs := [2, 3]) rtD (fun p => rtD (p.1, oAnd p.2 (c.tv p.1))) [.dat (.list (l.map rtD)), .dat c.d, .un, .un] m l (fun p hp => by
    have e1 := truth_tv (T := T) p.1 c n (by omega) m (by rw [hw p hp]; exact ho)
    have e2 := both_tv (T := T) n (by omega) m p.2 (c.tv p.1)
    refine ⟨_, .dat (rtD (p.1, oAnd p.2 (c.tv p.1))), [.dat (.list (l.map rtD)), .dat c.d, .dat (rowD p.1), .dat (tvD p.2)], rfl, ?_, rfl, rfl⟩
    simp [e1, e2, rtD]) []
  have e3 := not_false_ok (T := T) n (by omega) m (l.map fun p => (p.1, oAnd p.2 (c.tv p.1))) (by simpa using hl)
  simp at e
  simp [Function.comp_def] at e3
  simp [d_kept, hl, e, e3, keepR]
theorem picked_ok (n : Nat) (hn : 1 ≤ n) (m : List Cell) (l : List Rt) (hl : Sp.Lim l.length) (cs : List Nat) (h8 : cs.length ≤ 8) (w : Nat) (hw : ∀ p ∈ l, p.1.length = w) (ho : ∀ i ∈ cs, i < w) : (mdOf T n).fns "picked" [.dat (.list (l.map rtD)), .dat (.tuple (cs.map natD))] m = .ok (.fr ((pickR l cs).map rtD)) ⟨[], m⟩ := by
  obtain ⟨n, rfl⟩ : ∃ j, n = j + 1 := ⟨n - 1, by omega⟩
  rw [fns_picked]
  have e := cl_map (tg := .tp [2, 3]) (m := den (mdOf T n) (.tup (.cons (.bl1 .tuple (.com (.nm 4) (.seq (.var 1)) .nil (.sub (.var 2) (.var 4)) [("column", 4)])) (.cons (.var 3) .nil)))) (vs := [2, 3]) rtD (fun p => rtD (pickRow cs p.1, p.2)) [.dat (.list (l.map rtD)), .dat (.tuple (cs.map natD)), .un, .un, .un] m l (fun p hp => by
    have e1 := cl_map (tg := .nm 4) (m := den (mdOf T n) (.sub (.var 2) (.var 4))) (vs := [4]) natD (fun i => (at0 p.1 i).d) [.dat (.list (l.map rtD)), .dat (.tuple (cs.map natD)), .dat (rowD p.1), .dat (tvD p.2), .un] m cs (fun i hi => by
      have h1 : i < p.1.length := by rw [hw p hp]; exact ho i hi
      have h2 : (i : Int) < p.1.length := by omega
      have h3 : p.1[i]? = some p.1[i] := List.getElem?_eq_getElem h1
      refine ⟨_, .dat (at0 p.1 i).d, [.dat (.list (l.map rtD)), .dat (.tuple (cs.map natD)), .dat (rowD p.1), .dat (tvD p.2), .dat (natD i)], rfl, ?_, rfl, rfl⟩
      simp [natD, rowD, h2, h3, at0, List.getD]) []
    refine ⟨_, .dat (rtD (pickRow cs p.1, p.2)), [.dat (.list (l.map rtD)), .dat (.tuple (cs.map natD)), .dat (rowD p.1), .dat (tvD p.2), .un], rfl, ?_, rfl, rfl⟩
    have a1 : cs.length ≤ 1000 := by omega
    simp [rowD] at e1
    simp [e1, a1, rtD, rowD, pickRow, at0, Function.comp_def]) []
  simp at e
  simp [d_picked, hl, e, pickR, Function.comp_def]
end
end Gq
end

section
namespace Gq
open PySem PySem.Spec L2
variable {T : Tb}
theorem fl_foldM {α β : Type} {tg : Tg} {body : Mo Fl} (g : β → D) (step : α → β → α) (R : α → S → Prop) (xs : List β) (h : ∀ x ∈ xs, ∀ a s, R a s → ∃ e s', tgSet tg (g x) s.env = some e ∧ body { s with env := e } = .ok .nx s' ∧ R (step a x) s') : ∀ (a : α) (s : S), R a s → ∃ s', fLoop tg body (xs.map g) s = .ok .nx s' ∧ R (xs.foldl step a) s' := by
  induction xs with
  | nil => intro a s hs; exact ⟨s, rfl, hs⟩
  | cons d ds ih =>
    intro a s hs
    obtain ⟨e, s1, h1, h2, h3⟩ := h d List.mem_cons_self a s hs
    obtain ⟨s2, h4, h5⟩ := ih (fun d hd => h d (List.mem_cons_of_mem _ hd)) _ s1 h3
    refine ⟨s2, ?_, h5⟩
    rw [List.map_cons]
    unfold fLoop
    rw [h1]
    show (body ⟨e, s.mem⟩).bind _ = _
    rw [h2]
    exact h4
@[simp] theorem tvD_some (b : Bool) : tvD (some b) = .bool b := (rfl)
@[simp] theorem tvD_none : tvD none = .none := (rfl)
@[simp] theorem add_row (p q : List Cl) : bAdd (rowD p) (rowD q) = if Sp.Lim (p.length + q.length) then some (.dat (rowD (p ++ q))) else none := by
  simp [rowD]
theorem zip_rows (r q : List Cl) : zipD (r.map Cl.d) (q.map Cl.d) = (r.zip q).map fun p => PyData.tuple [p.1.d, p.2.d] := by
  unfold zipD
  rw [List.zipWith_map, List.zip_eq_zipWith, List.map_zipWith]
section
variable [CRows T]
theorem pairs_ok (n : Nat) (hn : 3 ≤ n) (m : List Cell) (r q : List Cl) (ps : List (Nat × Nat)) (hp : ∀ p ∈ ps, p.1 < r.length ∧ p.2 < q.length) : (mdOf T n).fns "pairs_hold" [.dat (rowD r), .dat (rowD q), .dat (.tuple (ps.map prD))] m = .ok (.dat (tvD (pairsT r q ps))) ⟨[], m⟩ := by
  obtain ⟨n, rfl⟩ : ∃ j, n = j + 1 := ⟨n - 1, by omega⟩
  rw [fns_pairs_hold]
  obtain ⟨s', e, x, y, rfl⟩ := fl_foldM (tg := .tp [4, 5]) (body := denSs (mdOf T n) (.cons (.asg 3 (.cal "of_both" (.cons (.var 3) (.cons (.cal "same" (.cons (.sub (.var 0) (.var 4)) (.cons (.sub (.var 1) (.var 5)) .nil))) .nil)))) .nil)) prD (fun (t : Tv) p => oAnd t ((at0 r p.1).same (at0 q p.2))) (fun t s => ∃ x y, s = ⟨[.dat (rowD r), .dat (rowD q), .dat (.tuple (ps.map prD)), .dat (tvD t), x, y], m⟩) ps (fun p hi t s hs => by
    obtain ⟨x, y, rfl⟩ := hs
    obtain ⟨h1, h2⟩ := hp p hi
    have b1 : (p.1 : Int) < r.length := by omega
    have b2 : (p.2 : Int) < q.length := by omega
    have b3 : r[p.1]? = some r[p.1] := List.getElem?_eq_getElem h1
    have b4 : q[p.2]? = some q[p.2] := List.getElem?_eq_getElem h2
    have e1 := same_cl (T := T) n (by omega) m r[p.1] q[p.2]
    have e2 := both_tv (T := T) n (by omega) m t (r[p.1].same q[p.2])
    refine ⟨_, _, rfl, ?_, .dat (.int p.1), .dat (.int p.2), rfl⟩
    simp [rowD, b1, b2, b3, b4, e1, e2, at0, List.getD]) (some true) ⟨[.dat (rowD r), .dat (rowD q), .dat (.tuple (ps.map prD)), .dat (tvD (some true)), .un, .un], m⟩ ⟨.un, .un, rfl⟩
  simp at e
  simp [d_pairs_hold, e, pairsT]
theorem same_cells_ok (n : Nat) (hn : 3 ≤ n) (m : List Cell) (r q : List Cl) : (mdOf T n).fns "same_cells" [.dat (rowD r), .dat (rowD q)] m = .ok (.dat (tvD (sameT r q))) ⟨[], m⟩ := by
  obtain ⟨n, rfl⟩ : ∃ j, n = j + 1 := ⟨n - 1, by omega⟩
  rw [fns_same_cells]
  obtain ⟨s', e, x, y, rfl⟩ := fl_foldM (tg := .tp [3, 4]) (body := denSs (mdOf T n) (.cons (.asg 2 (.cal "of_both" (.cons (.var 2) (.cons (.cal "same" (.cons (.var 3) (.cons (.var 4) .nil))) .nil)))) .nil)) (fun p : Cl × Cl => PyData.tuple [p.1.d, p.2.d]) (fun (t : Tv) p => oAnd t (p.1.same p.2)) (fun t s => ∃ x y, s = ⟨[.dat (rowD r), .dat (rowD q), .dat (tvD t), x, y], m⟩) (r.zip q) (fun p hi t s hs => by
    obtain ⟨x, y, rfl⟩ := hs
    have e1 := same_cl (T := T) n (by omega) m p.1 p.2
    have e2 := both_tv (T := T) n (by omega) m t (p.1.same p.2)
    refine ⟨_, _, rfl, ?_, .dat p.1.d, .dat p.2.d, rfl⟩
    simp [e1, e2]) (some true) ⟨[.dat (rowD r), .dat (rowD q), .dat (tvD (some true)), .un, .un], m⟩ ⟨.un, .un, rfl⟩
  have z := zip_rows r q
  simp [rowD] at e
  simp [d_same_cells, rowD, z, e, sameT]
theorem among_ok (n : Nat) (hn : 4 ≤ n) (m : List Cell) (r : List Cl) (k : List Rt) : (mdOf T n).fns "is_among" [.dat (rowD r), .dat (.list (k.map rtD))] m = .ok (.dat (tvD (amongT r k))) ⟨[], m⟩ := by
  obtain ⟨n, rfl⟩ : ∃ j, n = j + 1 := ⟨n - 1, by omega⟩
  rw [fns_is_among]
  obtain ⟨s', e, x, y, rfl⟩ := fl_foldM (tg := .tp [3, 4]) (body := denSs (mdOf T n) (.cons (.asg 2 (.cal "of_either" (.cons (.var 2) (.cons (.cal "of_both" (.cons (.var 4) (.cons (.cal "same_cells" (.cons (.var 0) (.cons (.var 3) .nil))) .nil))) .nil)))) .nil)) rtD (fun (t : Tv) p => oOr t (oAnd p.2 (sameT r p.1))) (fun t s => ∃ x y, s = ⟨[.dat (rowD r), .dat (.list (k.map rtD)), .dat (tvD t), x, y], m⟩) k (fun p hi t s hs => by
    obtain ⟨x, y, rfl⟩ := hs
    have e1 := same_cells_ok (T := T) n (by omega) m r p.1
    have e2 := both_tv (T := T) n (by omega) m p.2 (sameT r p.1)
    have e3 := either_tv (T := T) n (by omega) m t (oAnd p.2 (sameT r p.1))
    refine ⟨_, _, rfl, ?_, .dat (rowD p.1), .dat (tvD p.2), rfl⟩
    simp [e1, e2, e3]) (some false) ⟨[.dat (rowD r), .dat (.list (k.map rtD)), .dat (tvD (some false)), .un, .un], m⟩ ⟨.un, .un, rfl⟩
  simp at e
  simp [d_is_among, e, amongT]
theorem without_ok (n : Nat) (hn : 5 ≤ n) (m : List Cell) (l k : List Rt) (hl : Sp.Lim l.length) : (mdOf T n).fns "left_without" [.dat (.list (l.map rtD)), .dat (.list (k.map rtD))] m = .ok (.fr ((withoutR l k).map rtD)) ⟨[], m⟩ := by
  obtain ⟨n, rfl⟩ : ∃ j, n = j + 1 := ⟨n - 1, by omega⟩
  rw [fns_left_without]
  have e := cl_map (tg := .tp [2, 3]) (m := den (mdOf T n) (.tup (.cons (.var 2) (.cons (.cal "of_both" (.cons (.var 3) (.cons (.cal "opposite" (.cons (.cal "is_among" (.cons (.var 2) (.cons (.var 1) .nil))) .nil)) .nil))) .nil)))) (vs := [2, 3]) rtD (fun p => rtD (p.1, oAnd p.2 (oNot (amongT p.1 k)))) [.dat (.list (l.map rtD)), .dat (.list (k.map rtD)), .un, .un] m l (fun p hp => by
    have e1 := among_ok (T := T) n (by omega) m p.1 k
    have e2 := opp_tv (T := T) n (by omega) m (amongT p.1 k)
    have e3 := both_tv (T := T) n (by omega) m p.2 (oNot (amongT p.1 k))
    refine ⟨_, .dat (rtD (p.1, oAnd p.2 (oNot (amongT p.1 k)))), [.dat (.list (l.map rtD)), .dat (.list (k.map rtD)), .dat (rowD p.1), .dat (tvD p.2)], rfl, ?_, rfl, rfl⟩
    simp [e1, e2, e3, rtD]) []
  have e3 := not_false_ok (T := T) n (by omega) m (l.map fun p => (p.1, oAnd p.2 (oNot (amongT p.1 k)))) (by simpa using hl)
  simp at e
  simp [Function.comp_def] at e3
  simp [d_left_without, hl, e, e3, withoutR]
theorem joined_ok (n : Nat) (hn : 4 ≤ n) (m : List Cell) (l k : List Rt) (hl : Sp.Lim (l.length * k.length)) (ps : List (Nat × Nat)) (v w : Nat) (hv : ∀ p ∈ l, p.1.length = v) (hw : ∀ p ∈ k, p.1.length = w) (h8 : v + w ≤ 8) (hp : ∀ p ∈ ps, p.1 < v ∧ p.2 < w) : (mdOf T n).fns "joined" [.dat (.list (l.map rtD)), .dat (.list (k.map rtD)), .dat (.tuple (ps.map prD))] m = .ok (.fr ((joinR l k ps).map rtD)) ⟨[], m⟩ := by
  obtain ⟨n, rfl⟩ : ∃ j, n = j + 1 := ⟨n - 1, by omega⟩
  rw [fns_joined]
  let tr : Rt → Rt → Rt := fun p q => (p.1 ++ q.1, oAnd (oAnd p.2 q.2) (pairsT p.1 q.1 ps))
  have lenN : ∀ (a b : List Rt), (nf (a ++ b)) = nf a ++ nf b := fun a b => List.filter_append a b
  let inner : SoL := (.cons (.asg 8 (.cal "of_both" (.cons (.cal "of_both" (.cons (.var 5) (.cons (.var 7) .nil))) (.cons (.cal "pairs_hold" (.cons (.var 4) (.cons (.var 6) (.cons (.var 2) .nil)))) .nil)))) (.cons (.iff (.cmp .isnot (.var 8) (.kon (.bool false))) (.cons (.exp (.mut .append 3 (.cons (.tup (.cons (.bin .add (.var 4) (.var 6)) (.cons (.var 8) .nil))) .nil))) .nil) .nil) .nil))
  have hin : ∀ (p : Rt), p ∈ l → ∀ (a : List Rt) (done : List Rt) (x6 x7 x8 : Sl), a.length + k.length ≤ l.length * k.length → ∃ s', fLoop (.tp [6, 7]) (denSs (mdOf T n) inner) (k.map rtD) ⟨[.dat (.list (l.map rtD)), .dat (.list (k.map rtD)), .dat (.tuple (ps.map prD)), .own (a.map rtD), .dat (rowD p.1), .dat (tvD p.2), x6, x7, x8], m⟩ = .ok .nx s' ∧ ∃ x6 x7 x8, s' = ⟨[.dat (.list (l.map rtD)), .dat (.list (k.map rtD)), .dat (.tuple (ps.map prD)), .own ((a ++ nf (k.map (tr p))).map rtD), .dat (rowD p.1), .dat (tvD p.2), x6, x7, x8], m⟩ := by
    intro p hpl a _ x6 x7 x8 ha
    have gen : ∀ (kk : List Rt) (a : List Rt) (x6 x7 x8 : Sl), (∀ q ∈ kk, q ∈ k) → a.length + kk.length ≤ l.length * k.length → ∃ s', fLoop (.tp [6, 7]) (denSs (mdOf T n) inner) (kk.map rtD) ⟨[.dat (.list (l.map rtD)), .dat (.list (k.map rtD)), .dat (.tuple (ps.map prD)), .own (a.map rtD), .dat (rowD p.1), .dat (tvD p.2), x6, x7, x8], m⟩ = .ok .nx s' ∧ ∃ x6 x7 x8, s' = ⟨[.dat (.list (l.map rtD)), .dat (.list (k.map rtD)), .dat (.tuple (ps.map prD)), .own ((a ++ nf (kk.map (tr p))).map rtD), .dat (rowD p.1), .dat (tvD p.2), x6, x7, x8], m⟩ := by
      intro kk
      induction kk with
      | nil => intro a x6 x7 x8 _ _; exact ⟨_, rfl, x6, x7, x8, by simp [nf]⟩
      | cons q kk ih =>
        intro a x6 x7 x8 hk hlen
        simp at hlen
        have hq := hk q List.mem_cons_self
        have e1 := both_tv (T := T) n (by omega) m p.2 q.2
        have e2 := pairs_ok (T := T) n (by omega) m p.1 q.1 ps (fun z hz => by rw [hv p hpl, hw q hq]; exact hp z hz)
        have e3 := both_tv (T := T) n (by omega) m (oAnd p.2 q.2) (pairsT p.1 q.1 ps)
        have l1 : p.1.length + q.1.length ≤ 1000 := by rw [hv p hpl, hw q hq]; omega
        have l2 : Sp.Lim (a.length + 1) := by have : l.length * k.length ≤ 1000000 := hl; show a.length + 1 ≤ 1000000; omega
        have hb : denSs (mdOf T n) inner ⟨[.dat (.list (l.map rtD)), .dat (.list (k.map rtD)), .dat (.tuple (ps.map prD)), .own (a.map rtD), .dat (rowD p.1), .dat (tvD p.2), .dat (rowD q.1), .dat (tvD q.2), x8], m⟩ = .ok .nx ⟨[.dat (.list (l.map rtD)), .dat (.list (k.map rtD)), .dat (.tuple (ps.map prD)), .own ((a ++ nf [tr p q]).map rtD), .dat (rowD p.1), .dat (tvD p.2), .dat (rowD q.1), .dat (tvD q.2), .dat (tvD (tr p q).2)], m⟩ := by
          have hT : (tr p q).2 = oAnd (oAnd p.2 q.2) (pairsT p.1 q.1 ps) := rfl
          have hR : (tr p q).1 = p.1 ++ q.1 := rfl
          by_cases hz : (tr p q).2 = some false
          · have : nf [tr p q] = [] := by simp [nf, hz]
            rw [this]
            rw [hT] at hz
            rw [hz] at e3
            simp [inner, e1, e2, e3, hT, hz]
          · have : nf [tr p q] = [tr p q] := by simp [nf, hz]
            rw [this]
            rw [hT] at hz
            have hz' : (oAnd (oAnd p.2 q.2) (pairsT p.1 q.1 ps) != some false) = true := by simpa using hz
            simp [inner, e1, e2, e3, hT, hR, hz', l1, l2, rtD]
        obtain ⟨s', h1, x6', x7', x8', h2⟩ := ih (a ++ nf [tr p q]) (.dat (rowD q.1)) (.dat (tvD q.2)) (.dat (tvD (tr p q).2)) (fun z hz => hk z (List.mem_cons_of_mem _ hz)) (by
          have : (nf [tr p q]).length ≤ 1 := List.length_filter_le _ _
          simp
          omega)
        refine ⟨s', ?_, x6', x7', x8', ?_⟩
        · rw [List.map_cons]
          unfold fLoop
          show (denSs (mdOf T n) inner ⟨[.dat (.list (l.map rtD)), .dat (.list (k.map rtD)), .dat (.tuple (ps.map prD)), .own (a.map rtD), .dat (rowD p.1), .dat (tvD p.2), .dat (rowD q.1), .dat (tvD q.2), x8], m⟩).bind _ = _
          rw [hb]
          exact h1
        · rw [h2, List.append_assoc, ← lenN]
          rfl
    exact gen k a x6 x7 x8 (fun _ h => h) ha
  have hout : ∀ (ll : List Rt) (a : List Rt) (x4 x5 x6 x7 x8 : Sl), (∀ p ∈ ll, p ∈ l) → a.length + ll.length * k.length ≤ l.length * k.length → ∃ s', fLoop (.tp [4, 5]) (denSs (mdOf T n) (.cons (.lop (.tp [6, 7]) (.seq (.var 1)) inner) .nil)) (ll.map rtD) ⟨[.dat (.list (l.map rtD)), .dat (.list (k.map rtD)), .dat (.tuple (ps.map prD)), .own (a.map rtD), x4, x5, x6, x7, x8], m⟩ = .ok .nx s' ∧ ∃ x4 x5 x6 x7 x8, s' = ⟨[.dat (.list (l.map rtD)), .dat (.list (k.map rtD)), .dat (.tuple (ps.map prD)), .own ((a ++ nf (ll.flatMap fun p => k.map (tr p))).map rtD), x4, x5, x6, x7, x8], m⟩ := by
    intro ll
    induction ll with
    | nil => intro a x4 x5 x6 x7 x8 _ _; exact ⟨_, rfl, x4, x5, x6, x7, x8, by simp [nf]⟩
    | cons p ll ih =>
      intro a x4 x5 x6 x7 x8 hk hlen
      have hp0 := hk p List.mem_cons_self
      have hmul : (p :: ll).length * k.length = ll.length * k.length + k.length := by rw [List.length_cons, Nat.succ_mul]
      rw [hmul] at hlen
      obtain ⟨s1, h1, y6, y7, y8, rfl⟩ := hin p hp0 a [] x6 x7 x8 (by omega)
      obtain ⟨s', h2, z4, z5, z6, z7, z8, h3⟩ := ih (a ++ nf (k.map (tr p))) (.dat (rowD p.1)) (.dat (tvD p.2)) y6 y7 y8 (fun z hz => hk z (List.mem_cons_of_mem _ hz)) (by
        have : (nf (k.map (tr p))).length ≤ (k.map (tr p)).length := List.length_filter_le _ _
        rw [List.length_map] at this
        rw [List.length_append]
        omega)
      refine ⟨s', ?_, z4, z5, z6, z7, z8, ?_⟩
      · rw [List.map_cons]
        unfold fLoop
        show (denSs (mdOf T n) (.cons (.lop (.tp [6, 7]) (.seq (.var 1)) inner) .nil) ⟨[.dat (.list (l.map rtD)), .dat (.list (k.map rtD)), .dat (.tuple (ps.map prD)), .own (a.map rtD), .dat (rowD p.1), .dat (tvD p.2), x6, x7, x8], m⟩).bind _ = _
        have hb : denSs (mdOf T n) (.cons (.lop (.tp [6, 7]) (.seq (.var 1)) inner) .nil) ⟨[.dat (.list (l.map rtD)), .dat (.list (k.map rtD)), .dat (.tuple (ps.map prD)), .own (a.map rtD), .dat (rowD p.1), .dat (tvD p.2), x6, x7, x8], m⟩ = .ok .nx ⟨[.dat (.list (l.map rtD)), .dat (.list (k.map rtD)), .dat (.tuple (ps.map prD)), .own ((a ++ nf (k.map (tr p))).map rtD), .dat (rowD p.1), .dat (tvD p.2), y6, y7, y8], m⟩ := by
          refine ss_nx ?_
          rw [Sp.denS_lop]
          show (denI (mdOf T n) (.seq (.var 1)) ⟨[.dat (.list (l.map rtD)), .dat (.list (k.map rtD)), .dat (.tuple (ps.map prD)), .own (a.map rtD), .dat (rowD p.1), .dat (tvD p.2), x6, x7, x8], m⟩).bind _ = _
          have : denI (mdOf T n) (.seq (.var 1)) ⟨[.dat (.list (l.map rtD)), .dat (.list (k.map rtD)), .dat (.tuple (ps.map prD)), .own (a.map rtD), .dat (rowD p.1), .dat (tvD p.2), x6, x7, x8], m⟩ = .ok (k.map rtD) ⟨[.dat (.list (l.map rtD)), .dat (.list (k.map rtD)), .dat (.tuple (ps.map prD)), .own (a.map rtD), .dat (rowD p.1), .dat (tvD p.2), x6, x7, x8], m⟩ := by simp
          rw [this]
          exact h1
        rw [hb]
        exact h2
      · rw [h3, List.append_assoc, ← lenN]
        rfl
  obtain ⟨s', e, x4, x5, x6, x7, x8, rfl⟩ := hout l [] .un .un .un .un .un (fun _ h => h) (by simp)
  refine run_ret (d := d_joined) (args := [.dat (.list (l.map rtD)), .dat (.list (k.map rtD)), .dat (.tuple (ps.map prD))]) (m := m) (s := ⟨[.dat (.list (l.map rtD)), .dat (.list (k.map rtD)), .dat (.tuple (ps.map prD)), .un, x4, x5, x6, x7, x8], m⟩) rfl rfl ?_
  refine (ss_nx (s' := ⟨[.dat (.list (l.map rtD)), .dat (.list (k.map rtD)), .dat (.tuple (ps.map prD)), .own (([] : List Rt).map rtD), .un, .un, .un, .un, .un], m⟩) (by simp [d_joined])).trans ?_
  refine (ss_nx (s' := ⟨[.dat (.list (l.map rtD)), .dat (.list (k.map rtD)), .dat (.tuple (ps.map prD)), .own (([] ++ nf (l.flatMap fun p => k.map (tr p))).map rtD), x4, x5, x6, x7, x8], m⟩) ?_).trans (ss_ret ?_)
  · rw [Sp.denS_lop]
    show (denI (mdOf T n) (.seq (.var 0)) ⟨[.dat (.list (l.map rtD)), .dat (.list (k.map rtD)), .dat (.tuple (ps.map prD)), .own (([] : List Rt).map rtD), .un, .un, .un, .un, .un], m⟩).bind _ = _
    have : denI (mdOf T n) (.seq (.var 0)) ⟨[.dat (.list (l.map rtD)), .dat (.list (k.map rtD)), .dat (.tuple (ps.map prD)), .own (([] : List Rt).map rtD), .un, .un, .un, .un, .un], m⟩ = .ok (l.map rtD) ⟨[.dat (.list (l.map rtD)), .dat (.list (k.map rtD)), .dat (.tuple (ps.map prD)), .own (([] : List Rt).map rtD), .un, .un, .un, .un, .un], m⟩ := by simp
    rw [this]
    exact e
  · simp [joinR, tr]
end
end Gq
end

section
namespace Gq
open PySem PySem.Spec L2
variable {T : Tb}
def Sn.many (ts : List Tab) : Sn → Nat
  | .rows t => ((ts[t]?.map Tab.rows).getD []).length
  | .keep s _ => s.many ts
  | .pick s _ => s.many ts
  | .join a b _ => max (max (a.many ts) (b.many ts)) (a.many ts * b.many ts)
  | .both a b => max (max (a.many ts) (b.many ts)) (a.many ts + b.many ts)
  | .without a b => max (a.many ts) (b.many ts)
theorem nf_len (l : List Rt) : (nf l).length ≤ l.length := List.length_filter_le _ _
theorem nf_mem {l : List Rt} {p : Rt} (h : p ∈ nf l) : p ∈ l ∧ p.2 ≠ some false := by
  obtain ⟨h1, h2⟩ := List.mem_filter.mp h
  exact ⟨h1, by simpa using h2⟩
def TabsOk (ts : List Tab) : Prop := ∀ t ∈ ts, t.ok
theorem Tabs.tok {mo : Nat} {ts : List Tab} (h : Tabs mo ts) : TabsOk ts := fun t ht => ⟨(h.ok t ht).w1, (h.ok t ht).w4, (h.ok t ht).few, (h.ok t ht).row⟩
theorem told_len (ts : List Tab) (ht : TabsOk ts) : ∀ (s : Sn), s.ok (ts.map Tab.w) → (∀ p ∈ s.told ts, p.1.length = s.wid (ts.map Tab.w) ∧ (∀ c ∈ p.1, Cl.ok c) ∧ p.2 ≠ some false) := by
  intro s
  induction s with
  | rows t =>
    intro ho p hp
    have ho' : t < ts.length := by simpa using (show t < (ts.map Tab.w).length from ho)
    have h1 : ts[t]? = some ts[t] := List.getElem?_eq_getElem ho'
    simp only [Sn.told, h1, Option.map_some, Option.getD_some, List.mem_map] at hp
    obtain ⟨r, hr, rfl⟩ := hp
    obtain ⟨h2, h3⟩ := (ht _ (List.getElem_mem ho')).row r hr
    refine ⟨?_, h3, by simp⟩
    simp [Sn.wid, h1, h2]
  | keep s c ih =>
    intro ho p hp
    obtain ⟨h1, h2⟩ := nf_mem hp
    obtain ⟨q, hq, rfl⟩ := List.mem_map.mp h1
    obtain ⟨h3, h4, _⟩ := ih ho.1 q hq
    exact ⟨h3, h4, h2⟩
  | pick s cs ih =>
    intro ho p hp
    obtain ⟨q, hq, rfl⟩ := List.mem_map.mp hp
    obtain ⟨h3, h4, h5⟩ := ih ho.1 q hq
    refine ⟨by simp [pickRow, Sn.wid], fun c hc => ?_, h5⟩
    obtain ⟨i, hi, rfl⟩ := List.mem_map.mp hc
    have : i < q.1.length := by rw [h3]; exact ho.2.2.2 i hi
    have e : q.1.getD i (.num 0) = q.1[i] := by simp [List.getD, List.getElem?_eq_getElem this]
    rw [e]
    exact h4 _ (List.getElem_mem this)
  | join a b ps iha ihb =>
    intro ho p hp
    obtain ⟨h1, h2⟩ := nf_mem hp
    obtain ⟨q, hq, hp⟩ := List.mem_flatMap.mp h1
    obtain ⟨r, hr, rfl⟩ := List.mem_map.mp hp
    obtain ⟨h3, h4, _⟩ := iha ho.1 q hq
    obtain ⟨h5, h6, _⟩ := ihb ho.2.1 r hr
    refine ⟨by simp [Sn.wid, h3, h5], fun c hc => ?_, h2⟩
    rcases List.mem_append.mp hc with z | z
    · exact h4 c z
    · exact h6 c z
  | both a b iha ihb =>
    intro ho p hp
    rcases List.mem_append.mp hp with z | z
    · exact iha ho.1 p z
    · have := ihb ho.2.1 p z
      rw [← ho.2.2] at this
      exact this
  | without a b iha ihb =>
    intro ho p hp
    obtain ⟨h1, h2⟩ := nf_mem hp
    obtain ⟨q, hq, rfl⟩ := List.mem_map.mp h1
    obtain ⟨h3, h4, _⟩ := iha ho.1 q hq
    exact ⟨h3, h4, h2⟩
theorem wid8 (ts : List Tab) (ht : TabsOk ts) : ∀ s : Sn, s.ok (ts.map Tab.w) → s.wid (ts.map Tab.w) ≤ 8 := fun s => by
  induction s with
  | rows t =>
    intro ho
    have ho' : t < ts.length := by simpa using (show t < (ts.map Tab.w).length from ho)
    have h1 : ts[t]? = some ts[t] := List.getElem?_eq_getElem ho'
    have := (ht _ (List.getElem_mem ho')).w4
    simp [Sn.wid, h1]
    omega
  | keep s c ih => exact fun ho => ih ho.1
  | pick s cs ih => exact fun ho => ho.2.2.1
  | join a b ps iha ihb => exact fun ho => ho.2.2.1
  | both a b iha ihb => exact fun ho => iha ho.1
  | without a b iha ihb => exact fun ho => iha ho.1
theorem told_many (ts : List Tab) : ∀ s : Sn, (s.told ts).length ≤ s.many ts := by
  intro s
  induction s with
  | rows t => simp [Sn.told, Sn.many]
  | keep s c ih => exact Nat.le_trans (nf_len _) (by simpa [Sn.many] using ih)
  | pick s cs ih => simpa [Sn.told, pickR, Sn.many] using ih
  | join a b ps iha ihb =>
    refine Nat.le_trans (nf_len _) ?_
    have : ∀ (l k : List Rt), (l.flatMap fun p => k.map fun q => (p.1 ++ q.1, oAnd (oAnd p.2 q.2) (pairsT p.1 q.1 ps))).length = l.length * k.length := by
      intro l k
      induction l with
      | nil => simp
      | cons p l ih => simp [List.flatMap_cons, ih, Nat.succ_mul, Nat.add_comm]
    rw [this]
    have := Nat.mul_le_mul iha ihb
    simp only [Sn.many]
    omega
  | both a b iha ihb => simp only [Sn.told, Sn.many, List.length_append]; omega
  | without a b iha ihb =>
    refine Nat.le_trans (nf_len _) ?_
    simp only [List.length_map, Sn.many]
    omega
section
variable [CRows T]
theorem rows_told_ok (ts : List Tab) (ht : TabsOk ts) (s : Sn) : ∀ (n : Nat) (m : List Cell), s.deep + 6 ≤ n → s.ok (ts.map Tab.w) → s.many ts ≤ 1000000 → (mdOf T n).fns "rows_told" [.dat s.d, .dat (tabsD ts)] m = .ok (.fr ((s.told ts).map rtD)) ⟨[], m⟩ := by
  induction s with
  | rows t =>
    intro n m hn ho hm
    obtain ⟨n, rfl⟩ : ∃ j, n = j + 1 := ⟨n - 1, by omega⟩
    rw [fns_rows_told]
    have ho' : t < ts.length := by simpa using (show t < (ts.map Tab.w).length from ho)
    have h1 : ts[t]? = some ts[t] := List.getElem?_eq_getElem ho'
    have h2 : (t : Int) < ts.length := by omega
    have e := cl_map (tg := .nm 5) (m := den (mdOf T n) (.tup (.cons (.var 5) (.cons (.kon (.bool true)) .nil)))) (vs := [5]) rowD (fun r => rtD (r, some true)) [.dat (Sn.rows t).d, .dat (tabsD ts), .dat (.str "rows"), .un, .un, .un] m ts[t].rows (fun r hr => by
      refine ⟨_, .dat (rtD (r, some true)), [.dat (Sn.rows t).d, .dat (tabsD ts), .dat (.str "rows"), .un, .un, .dat (rowD r)], rfl, ?_, rfl, rfl⟩
      simp [rtD]) []
    have h3 : ts[t].rows.length ≤ 1000 := by have := (ht _ (List.getElem_mem ho')).few; omega
    simp [Sn.d, tabsD] at e
    simp [d_rows_told, Sn.d, tabsD, h1, h2, Tab.d, tabD, h3, e, Sn.told, Function.comp_def]
  | keep s c ih =>
    intro n m hn ho hm
    have hd : (Sn.keep s c).deep = max s.deep c.deep + 1 := rfl
    rw [hd] at hn
    obtain ⟨n, rfl⟩ : ∃ j, n = j + 1 := ⟨n - 1, by omega⟩
    rw [fns_rows_told]
    have e1 := ih n m (by omega) ho.1 hm
    have e2 := kept_ok (T := T) n m (s.told ts) (Nat.le_trans (told_many ts s) hm) c (by omega) (s.wid (ts.map Tab.w)) (fun p hp => (told_len ts ht s ho.1 p hp).1) ho.2
    simp [d_rows_told, Sn.d, e1, e2, Sn.told]
  | pick s cs ih =>
    intro n m hn ho hm
    have hd : (Sn.pick s cs).deep = s.deep + 1 := rfl
    rw [hd] at hn
    obtain ⟨n, rfl⟩ : ∃ j, n = j + 1 := ⟨n - 1, by omega⟩
    rw [fns_rows_told]
    have e1 := ih n m (by omega) ho.1 hm
    have e2 := picked_ok (T := T) n (by omega) m (s.told ts) (Nat.le_trans (told_many ts s) hm) cs ho.2.2.1 (s.wid (ts.map Tab.w)) (fun p hp => (told_len ts ht s ho.1 p hp).1) ho.2.2.2
    simp [d_rows_told, Sn.d, e1, e2, Sn.told]
  | join a b ps iha ihb =>
    intro n m hn ho hm
    have hd : (Sn.join a b ps).deep = max a.deep b.deep + 1 := rfl
    rw [hd] at hn
    obtain ⟨n, rfl⟩ : ∃ j, n = j + 1 := ⟨n - 1, by omega⟩
    rw [fns_rows_told]
    simp only [Sn.many] at hm
    have e1 := iha n m (by omega) ho.1 (by omega)
    have e2 := ihb n m (by omega) ho.2.1 (by omega)
    have hl : Sp.Lim ((a.told ts).length * (b.told ts).length) := Nat.le_trans (Nat.mul_le_mul (told_many ts a) (told_many ts b)) (by omega)
    have e3 := joined_ok (T := T) n (by omega) m (a.told ts) (b.told ts) hl ps (a.wid (ts.map Tab.w)) (b.wid (ts.map Tab.w)) (fun p hp => (told_len ts ht a ho.1 p hp).1) (fun p hp => (told_len ts ht b ho.2.1 p hp).1) ho.2.2.1 ho.2.2.2
    simp [d_rows_told, Sn.d, e1, e2, e3, Sn.told]
  | both a b iha ihb =>
    intro n m hn ho hm
    have hd : (Sn.both a b).deep = max a.deep b.deep + 1 := rfl
    rw [hd] at hn
    obtain ⟨n, rfl⟩ : ∃ j, n = j + 1 := ⟨n - 1, by omega⟩
    rw [fns_rows_told]
    simp only [Sn.many] at hm
    have e1 := iha n m (by omega) ho.1 (by omega)
    have e2 := ihb n m (by omega) ho.2.1 (by omega)
    have m1 := told_many ts a
    have m2 := told_many ts b
    have hl : Sp.Lim ((a.told ts).length + (b.told ts).length) := by show _ ≤ 1000000; omega
    simp [d_rows_told, Sn.d, e1, e2, Sn.told, hl]
  | without a b iha ihb =>
    intro n m hn ho hm
    have hd : (Sn.without a b).deep = max a.deep b.deep + 1 := rfl
    rw [hd] at hn
    obtain ⟨n, rfl⟩ : ∃ j, n = j + 1 := ⟨n - 1, by omega⟩
    rw [fns_rows_told]
    simp only [Sn.many] at hm
    have e1 := iha n m (by omega) ho.1 (by omega)
    have e2 := ihb n m (by omega) ho.2.1 (by omega)
    have m1 := told_many ts a
    have hl : Sp.Lim (a.told ts).length := by show _ ≤ 1000000; omega
    have e3 := without_ok (T := T) n (by omega) m (a.told ts) (b.told ts) hl
    simp [d_rows_told, Sn.d, e1, e2, e3, Sn.told]
end
def mkW (t : Tv) : Str := if t = some true then "sure" else "maybe"
def rmD (p : Rt) : D := .tuple [rowD p.1, .str (mkW p.2)]
section
variable [CRun T]
theorem run_ok (mo : Nat) (ts : List Tab) (ht : Tabs mo ts) (s : Sn) (n : Nat) (hn : s.deep + 9 ≤ n) (m : List Cell) (hs : s.size ≤ 60) (ho : s.ok (ts.map Tab.w)) (hm : s.many ts ≤ 1000000) : ∃ t, (mdOf T n).fns "run" [.dat s.d, .dat (tabsD ts)] m = .ok (.fr ((s.told ts).map rmD)) ⟨[], m ++ [t]⟩ := by
  obtain ⟨n, rfl⟩ : ∃ j, n = j + 1 := ⟨n - 1, by omega⟩
  obtain ⟨t, e1⟩ := check_over (T := T) ts mo ht s n (by omega) m hs ho
  have e2 := rows_told_ok (T := T) ts ht.tok s n (m ++ [t]) (by omega) ho hm
  refine ⟨t, ?_⟩
  rw [fns_run]
  have e := cl_map (tg := .tp [2, 3]) (m := den (mdOf T n) (.tup (.cons (.var 2) (.cons (.ite (.var 3) (.kon (.str "sure")) (.kon (.str "maybe"))) .nil)))) (vs := [2, 3]) rtD rmD [.dat s.d, .dat (tabsD ts), .un, .un] (m ++ [t]) (s.told ts) (fun p hp => by
    refine ⟨_, .dat (rmD p), [.dat s.d, .dat (tabsD ts), .dat (rowD p.1), .dat (tvD p.2)], rfl, ?_, rfl, rfl⟩
    have hf := (told_len ts ht.tok s ho p hp).2.2
    obtain ⟨r, tv⟩ := p
    rcases tv with _ | b
    · simp [rmD, mkW]
    · cases b
      · exact absurd rfl hf
      · simp [rmD, mkW]) []
  have hl : Sp.Lim (s.told ts).length := Nat.le_trans (told_many ts s) hm
  simp at e
  simp [d_run, e1, e2, hl, e]
end
end Gq
end

section
namespace Gq
open PySem PySem.Spec L2
variable {T : Tb}
def Sn.safe : Sn → Prop
  | .rows _ => True | .keep s c => s.safe ∧ c.safe | .pick s _ => s.safe | .join a b _ => a.safe ∧ b.safe | .both a b => a.safe ∧ b.safe | .without a b => a.safe ∧ b.safe
def Sn.lev : Sn → Nat
  | .rows _ => 0 | .keep s _ => s.lev | .pick s _ => s.lev | .join a b _ => max a.lev b.lev + 1 | .both a b => max a.lev b.lev + 1 | .without a b => max a.lev b.lev + 1
def Sn.prs : Sn → Prop
  | .rows _ => True | .keep s _ => s.prs | .pick s _ => s.prs | .join a b ps => a.prs ∧ b.prs ∧ ps.length ≤ 500 | .both a b => a.prs ∧ b.prs | .without a b => a.prs ∧ b.prs
theorem draw_list {β : Type} (f : β → D) (P : β → Prop) (rest : List Cell) (me : Mo Vl) (tg : Tg) (v : Nat) (E : List Sl) (hE : ∀ d, ∃ e, tgSet tg d E = some e ∧ wipeE e [v] = E ∧ ∀ c, Dc c → ∃ y c', Dc c' ∧ P y ∧ me ⟨e, c :: rest⟩ = .ok (.dat (f y)) ⟨e, c' :: rest⟩) :
    ∀ (ds : List D) (c : Cell), Dc c → ∃ (ys : List β) (c' : Cell), Dc c' ∧ ys.length = ds.length ∧ (∀ y ∈ ys, P y) ∧ cLoop tg (pur true) me [v] ds [] ⟨E, c :: rest⟩ = .ok (ys.map f) ⟨E, c' :: rest⟩ := by
  intro ds c hc
  obtain ⟨ys, s', e1, e2, e3, c', e4, e5⟩ := cl_draw (tg := tg) (m := me) (vs := [v]) f P (fun s => ∃ c, Dc c ∧ s = ⟨E, c :: rest⟩) ds (fun d hd s hs => by
    obtain ⟨c, hc, rfl⟩ := hs
    obtain ⟨e, t1, t2, t3⟩ := hE d
    obtain ⟨y, c', h1, h2, h3⟩ := t3 c hc
    exact ⟨e, _, y, _, t1, h3, rfl, h2, c', h1, by rw [t2]⟩) [] ⟨E, c :: rest⟩ ⟨c, hc, rfl⟩
  subst e5
  exact ⟨ys, c', e4, e2, e3, by simpa using e1⟩
section
variable [CAny T]
theorem draw_cols (n : Nat) (hn : 1 ≤ n) (rest : List Cell) (w : Nat) (hw : 1 ≤ w) (hw8 : w ≤ 8) (v q p : Nat) (E : List Sl) (hE : ∀ d, ∃ e, tgSet (.nm v) d E = some e ∧ wipeE e [v] = E ∧ e[q]? = some (.hnd 0) ∧ e[p]? = some (.dat (.int w))) (ds : List D) (c : Cell) (hc : Dc c) :
    ∃ (cs : List Nat) (c' : Cell), Dc c' ∧ cs.length = ds.length ∧ (∀ i ∈ cs, i < w) ∧ cLoop (.nm v) (pur true) (den (mdOf T n) (.cal "_law_next" (.cons (.var q) (.cons (.var p) .nil)))) [v] ds [] ⟨E, c :: rest⟩ = .ok (cs.map natD) ⟨E, c' :: rest⟩ :=
  draw_list natD (fun i => i < w) rest _ (.nm v) v E (fun d => by
    obtain ⟨e, h1, h2, h3, h4⟩ := hE d
    refine ⟨e, h1, h2, fun c hc => ?_⟩
    obtain ⟨j, c', hc', hj, ej⟩ := nxtN (T := T) n hn rest c hc w hw (by omega)
    exact ⟨j, c', hc', hj, by simp [h3, h4, ej, natD]⟩) ds c hc
theorem draw_pairs (n : Nat) (hn : 1 ≤ n) (rest : List Cell) (w u : Nat) (hw : 1 ≤ w) (hw8 : w ≤ 8) (hu : 1 ≤ u) (hu8 : u ≤ 8) (v q p p' : Nat) (E : List Sl) (hE : ∀ d, ∃ e, tgSet (.nm v) d E = some e ∧ wipeE e [v] = E ∧ e[q]? = some (.hnd 0) ∧ e[p]? = some (.dat (.int w)) ∧ e[p']? = some (.dat (.int u))) (ds : List D) (c : Cell) (hc : Dc c) :
    ∃ (cs : List (Nat × Nat)) (c' : Cell), Dc c' ∧ cs.length = ds.length ∧ (∀ i ∈ cs, i.1 < w ∧ i.2 < u) ∧ cLoop (.nm v) (pur true) (den (mdOf T n) (.tup (.cons (.cal "_law_next" (.cons (.var q) (.cons (.var p) .nil))) (.cons (.cal "_law_next" (.cons (.var q) (.cons (.var p') .nil))) .nil)))) [v] ds [] ⟨E, c :: rest⟩ = .ok (cs.map prD) ⟨E, c' :: rest⟩ :=
  draw_list prD (fun i => i.1 < w ∧ i.2 < u) rest _ (.nm v) v E (fun d => by
    obtain ⟨e, h1, h2, h3, h4, h5⟩ := hE d
    refine ⟨e, h1, h2, fun c hc => ?_⟩
    obtain ⟨j, c1, d1, hj, ej⟩ := nxtN (T := T) n hn rest c hc w hw (by omega)
    obtain ⟨k, c2, d2, hk, ek⟩ := nxtN (T := T) n hn rest c1 d1 u hu (by omega)
    exact ⟨(j, k), c2, d2, ⟨hj, hk⟩, by simp [h3, h4, h5, ej, ek, prD]⟩) ds c hc
structure AnyOk (ws : List Nat) (safe : Bool) (dp lv : Nat) (s : Sn) : Prop where
  ok : s.ok ws
  w1 : 1 ≤ s.wid ws
  w8 : s.wid ws ≤ 8
  deep : s.deep ≤ dp
  lev : s.lev ≤ lv
  safe : safe = true → s.safe
  prs : s.prs
theorem law_any (ws : List Nat) (hws : ∀ w ∈ ws, 1 ≤ w ∧ w ≤ 4) (h0 : 1 ≤ ws.length) (h3 : ws.length ≤ 3) (safe : Bool) : ∀ (deep n : Nat) (rest : List Cell) (c : Cell), Dc c → 2 * deep + 9 ≤ n →
    ∃ (s : Sn) (c' : Cell), Dc c' ∧ AnyOk ws safe (2 * deep + 6) deep s ∧ (mdOf T n).fns "_law_any" [.hnd 0, .dat (.list (ws.map natD)), .dat (.int deep), .dat (.bool safe)] (c :: rest) = .ok (.dat (.tuple [s.d, .int (s.wid ws)])) ⟨[], c' :: rest⟩ := by
  have leaf : ∀ (deep n : Nat) (rest : List Cell) (c : Cell), Dc c → 1 ≤ n → ∀ v1 : Int, (deep = 0 ∨ v1 = 0) → ∀ c1, Dc c1 → (mdOf T n).fns "_law_next" [.hnd 0, .dat (.int 8)] (c :: rest) = .ok (.dat (.int v1)) ⟨[], c1 :: rest⟩ →
      ∃ (s : Sn) (c' : Cell), Dc c' ∧ AnyOk ws safe (2 * deep + 6) deep s ∧ (mdOf T (n+1)).fns "_law_any" [.hnd 0, .dat (.list (ws.map natD)), .dat (.int deep), .dat (.bool safe)] (c :: rest) = .ok (.dat (.tuple [s.d, .int (s.wid ws)])) ⟨[], c' :: rest⟩ := by
    intro deep n rest c hc hn v1 hv c1 d1 e1
    obtain ⟨t, c2, d2, ht, e2⟩ := nxtN (T := T) n hn rest c1 d1 ws.length h0 (by omega)
    have h1 : ws[t]? = some ws[t] := List.getElem?_eq_getElem ht
    have h2 : (t : Int) < ws.length := by omega
    obtain ⟨z1, z2⟩ := hws _ (List.getElem_mem ht)
    have hw : (Sn.rows t).wid ws = ws[t] := by simp [Sn.wid, List.getD, h1]
    refine ⟨.rows t, c2, d2, ⟨ht, by rw [hw]; exact z1, by rw [hw]; omega, Nat.zero_le _, Nat.zero_le _, fun _ => trivial, trivial⟩, ?_⟩
    rw [fns__law_any, hw]
    rcases hv with rfl | rfl
    · simp [d__law_any, e1, e2, h1, h2, Sn.d, natD]
    · by_cases hd : (deep : Int) = 0
      · simp [d__law_any, e1, e2, h1, h2, Sn.d, natD, hd]
      · simp [d__law_any, e1, e2, h1, h2, Sn.d, natD, hd]
  intro deep
  induction deep with
  | zero =>
    intro n rest c hc hn
    obtain ⟨n, rfl⟩ : ∃ j, n = j + 1 := ⟨n - 1, by omega⟩
    obtain ⟨v1, c1, d1, a1, b1, e1⟩ := nxt (T := T) n (by omega) rest c hc 8 (by omega) (by omega)
    exact leaf 0 n rest c hc (by omega) v1 (.inl rfl) c1 d1 e1
  | succ deep ih =>
    intro n rest c hc hn
    obtain ⟨n, rfl⟩ : ∃ j, n = j + 1 := ⟨n - 1, by omega⟩
    obtain ⟨v1, c1, d1, a1, b1, e1⟩ := nxt (T := T) n (by omega) rest c hc 8 (by omega) (by omega)
    by_cases hv0 : v1 = 0
    · exact leaf (deep + 1) n rest c hc (by omega) v1 (.inr hv0) c1 d1 e1
    have z0 : ¬ ((deep : Int) + 1 = 0) := by omega
    have z1 : (deep : Int) + 1 - 1 = deep := by omega
    obtain ⟨s, c2, d2, k2, e2⟩ := ih n rest c1 d1 (by omega)
    have sized : ∀ (rest : List Cell) (c : Cell) (w : Nat), 1 ≤ w → w ≤ 8 → Dc c → ∃ (s : Sn) (c' : Cell), Dc c' ∧ AnyOk ws safe (2 * deep + 7) deep s ∧ s.wid ws = w ∧ (mdOf T n).fns "_law_sized" [.hnd 0, .dat (.int w), .dat (.int deep), .dat (.bool safe), .dat (.list (ws.map natD))] (c :: rest) = .ok (.dat s.d) ⟨[], c' :: rest⟩ := by
      intro rest c w w1 w8 hc
      obtain ⟨n, rfl⟩ : ∃ j, n = j + 1 := ⟨n - 1, by omega⟩
      obtain ⟨s, c2, d2, k2, e2⟩ := ih n rest c hc (by omega)
      rw [fns__law_sized]
      by_cases hw : s.wid ws = w
      · refine ⟨s, c2, d2, ⟨k2.ok, k2.w1, k2.w8, by have := k2.deep; omega, k2.lev, k2.safe, k2.prs⟩, hw, ?_⟩
        simp [d__law_sized, e2, hw]
      · have hw' : ¬ ((s.wid ws : Int) = w) := by omega
        obtain ⟨cs, c3, d3, l3, o3, e3⟩ := draw_cols (T := T) n (by omega) rest (s.wid ws) k2.w1 k2.w8 7 0 6 [.hnd 0, .dat (.int w), .dat (.int deep), .dat (.bool safe), .dat (.list (ws.map natD)), .dat s.d, .dat (.int (s.wid ws)), .un] (fun d => ⟨_, rfl, rfl, rfl, rfl⟩) (rgD 0 w) c2 d2
        have l4 : cs.length = w := by rw [l3]; simp
        have b1 : w ≤ 1000 := by omega
        refine ⟨.pick s cs, c3, d3, ⟨⟨k2.ok, by omega, by omega, o3⟩, show 1 ≤ cs.length by omega, show cs.length ≤ 8 by omega, ?_, k2.lev, k2.safe, k2.prs⟩, l4, ?_⟩
        · have : (Sn.pick s cs).deep = s.deep + 1 := rfl
          have := k2.deep
          omega
        · simp at e3
          have b2 : (w : Int) ≤ 1000 := by omega
          simp [d__law_sized, e2, hw', e3, b1, b2, l4, Sn.d]
    rw [fns__law_any]
    have hd := k2.deep
    have kw1 := k2.w1
    have kw8 := k2.w8
    have hbw : ∀ (e10 e11 : Sl), v1 = 4 ∨ v1 = 5 ∨ v1 = 6 ∨ v1 = 7 → ∀ c2, Dc c2 → ∃ (s' : Sn) (c' : Cell), Dc c' ∧ AnyOk ws safe (2 * (deep + 1) + 6) (deep + 1) s' ∧
        denSs (mdOf T n) (.cons (.asg 5 (.sub (.lst (.cons (.kon (.str "both")) (.cons (.kon (.str "without")) .nil))) (.bin .mod (.var 4) (.kon (.int 2))))) (.cons (.ret (.tup (.cons (.tup (.cons (.var 5) (.cons (.var 7) (.cons (.cal "_law_sized" (.cons (.var 0) (.cons (.var 8) (.cons (.bin .sub (.var 2) (.kon (.int 1))) (.cons (.var 3) (.cons (.var 1) .nil)))))) .nil)))) (.cons (.var 8) .nil)))) .nil))
          ⟨[.hnd 0, .dat (.list (ws.map natD)), .dat (.int ((deep : Int) + 1)), .dat (.bool safe), .dat (.int v1), .un, .un, .dat s.d, .dat (.int (s.wid ws)), .un, e10, e11, .un, .un], c2 :: rest⟩ = .ok (.ret (.dat (.tuple [s'.d, .int (s'.wid ws)]))) ⟨[.hnd 0, .dat (.list (ws.map natD)), .dat (.int ((deep : Int) + 1)), .dat (.bool safe), .dat (.int v1), .dat (.str (if v1 = 4 ∨ v1 = 6 then "both" else "without")), .un, .dat s.d, .dat (.int (s.wid ws)), .un, e10, e11, .un, .un], c' :: rest⟩ := by
      intro e10 e11 hv c2 d2
      obtain ⟨s', c3, d3, k3, w3, e3⟩ := sized rest c2 (s.wid ws) kw1 kw8 d2
      have hd3 := k3.deep
      by_cases hb : v1 = 4 ∨ v1 = 6
      · refine ⟨.both s s', c3, d3, ⟨⟨k2.ok, k3.ok, w3.symm⟩, kw1, kw8, ?_, (by have := k2.lev; have := k3.lev; show max _ _ + 1 ≤ _; omega), fun h => ⟨k2.safe h, k3.safe h⟩, ⟨k2.prs, k3.prs⟩⟩, ?_⟩
        · have : (Sn.both s s').deep = max s.deep s'.deep + 1 := rfl
          omega
        · rcases hb with rfl | rfl <;> simp [e3, Sn.d, Sn.wid, z1]
      · have hv' : v1 = 5 ∨ v1 = 7 := by omega
        refine ⟨.without s s', c3, d3, ⟨⟨k2.ok, k3.ok, w3.symm⟩, kw1, kw8, ?_, (by have := k2.lev; have := k3.lev; show max _ _ + 1 ≤ _; omega), fun h => ⟨k2.safe h, k3.safe h⟩, ⟨k2.prs, k3.prs⟩⟩, ?_⟩
        · have : (Sn.without s s').deep = max s.deep s'.deep + 1 := rfl
          omega
        · rcases hv' with rfl | rfl <;> simp [e3, Sn.d, Sn.wid, z1]
    by_cases h3' : v1 < 3
    · obtain ⟨x, c3, d3, o3, q3, s3, e3⟩ := cnd (T := T) (s.wid ws) kw1 kw8 safe 2 n (by omega) rest c2 d2
      refine ⟨.keep s x, c3, d3, ⟨⟨k2.ok, o3⟩, kw1, kw8, ?_, Nat.le_trans k2.lev (Nat.le_succ _), fun h => ⟨k2.safe h, s3 h⟩, k2.prs⟩, ?_⟩
      · have : (Sn.keep s x).deep = max s.deep x.deep + 1 := rfl
        omega
      · simp at e3
        simp [d__law_any, e1, hv0, z0, z1, e2, h3', e3, Sn.d, Sn.wid]
    by_cases h4' : v1 = 3
    · obtain ⟨v3, c3, d3, a3, b3, e3⟩ := nxt (T := T) n (by omega) rest c2 d2 3 (by omega) (by omega)
      obtain ⟨w, hw⟩ : ∃ w : Nat, 1 + v3 = w := ⟨(1 + v3).toNat, by omega⟩
      obtain ⟨cs, c4, d4, l4, o4, e4⟩ := draw_cols (T := T) n (by omega) rest (s.wid ws) kw1 kw8 13 0 8 [.hnd 0, .dat (.list (ws.map natD)), .dat (.int ((deep : Int) + 1)), .dat (.bool safe), .dat (.int 3), .un, .un, .dat s.d, .dat (.int (s.wid ws)), .dat (.int w), .un, .un, .un, .un] (fun d => ⟨_, rfl, rfl, rfl, rfl⟩) (rgD 0 w) c3 d3
      have l5 : cs.length = w := by rw [l4]; simp
      have b4 : w ≤ 1000 := by omega
      refine ⟨.pick s cs, c4, d4, ⟨⟨k2.ok, by omega, by omega, o4⟩, show 1 ≤ cs.length by omega, show cs.length ≤ 8 by omega, ?_, Nat.le_trans k2.lev (Nat.le_succ _), k2.safe, k2.prs⟩, ?_⟩
      · have : (Sn.pick s cs).deep = s.deep + 1 := rfl
        omega
      · subst h4'
        simp at e4
        have b5 : (w : Int) ≤ 1000 := by omega
        simp [d__law_any, e1, z0, z1, e2, e3, hw, e4, b4, b5, l5, Sn.d, Sn.wid]
    by_cases h6' : v1 < 6 ∧ s.wid ws < 5
    · obtain ⟨h6, h5⟩ := h6'
      have h5' : (s.wid ws : Int) < 5 := by omega
      obtain ⟨t, c3, d3, k3, e3⟩ := ih n rest c2 d2 (by omega)
      have tw1 := k3.w1
      have tw8 := k3.w8
      have hd3 := k3.deep
      by_cases h8 : t.wid ws + s.wid ws ≤ 8
      · have h8' : (t.wid ws : Int) + s.wid ws ≤ 8 := by omega
        obtain ⟨v4, c4, d4, a4, b4, e4⟩ := nxt (T := T) n (by omega) rest c3 d3 5 (by omega) (by omega)
        obtain ⟨ps, c5, d5, l5, o5, e5⟩ := draw_pairs (T := T) n (by omega) rest (s.wid ws) (t.wid ws) kw1 kw8 tw1 tw8 13 0 8 11 [.hnd 0, .dat (.list (ws.map natD)), .dat (.int ((deep : Int) + 1)), .dat (.bool safe), .dat (.int v1), .un, .un, .dat s.d, .dat (.int (s.wid ws)), .un, .dat t.d, .dat (.int (t.wid ws)), .un, .un] (fun d => ⟨_, rfl, rfl, rfl, rfl, rfl⟩) (rgD 0 v4) c4 d4
        have l6 : ps.length ≤ 1000 := by rw [l5]; simp; omega
        have b5 : v4 ≤ 1000 := by omega
        refine ⟨.join s t ps, c5, d5, ⟨⟨k2.ok, k3.ok, by omega, o5⟩, show 1 ≤ s.wid ws + t.wid ws by omega, show s.wid ws + t.wid ws ≤ 8 by omega, ?_, (by have := k2.lev; have := k3.lev; show max _ _ + 1 ≤ _; omega), fun h => ⟨k2.safe h, k3.safe h⟩, ⟨k2.prs, k3.prs, by rw [l5]; simp; omega⟩⟩, ?_⟩
        · have : (Sn.join s t ps).deep = max s.deep t.deep + 1 := rfl
          omega
        · simp at e5
          simp [d__law_any, e1, hv0, h3', h4', z0, z1, e2, h6, h5', e3, h8', e4, a4, b5, e5, l6, Sn.d, Sn.wid]
      · have h8' : ¬ ((t.wid ws : Int) + s.wid ws ≤ 8) := by omega
        obtain ⟨s', c', d', k', e'⟩ := hbw (.dat t.d) (.dat (.int (t.wid ws))) (by omega) c3 d3
        refine ⟨s', c', d', k', ?_⟩
        simp at e'
        simp [d__law_any, e1, hv0, h3', h4', z0, z1, e2, h6, h5', e3, h8', e']
    · obtain ⟨s', c', d', k', e'⟩ := hbw .un .un (by omega) c2 d2
      refine ⟨s', c', d', k', ?_⟩
      have hc6 : ¬ (v1 < 6) ∨ (v1 < 6 ∧ ¬ ((s.wid ws : Int) < 5)) := by omega
      simp at e'
      rcases hc6 with h | ⟨h, h'⟩
      · simp [d__law_any, e1, hv0, h3', h4', z0, z1, e2, h, e']
      · simp [d__law_any, e1, hv0, h3', h4', z0, z1, e2, h, h', e']
end
end Gq
end

section
namespace Gq
open PySem PySem.Spec L2
variable {T : Tb}
theorem Sn.form (p : Sn) : ∃ w l, p.d = .tuple (.str w :: l) := by cases p <;> exact ⟨_, _, rfl⟩
@[simp] theorem six5 : HT.sIx 4 0 (some 1) = 1 := by decide +kernel
@[simp] theorem six6 : HT.sIx 4 4 none = 4 := by decide +kernel
section
variable [CThings T]
theorem things_sn (p : Sn) : ∀ (n : Nat) (m : List Cell), p.deep + 1 ≤ n → (mdOf T n).fns "_law_things" [.dat p.d] m = .ok (.dat (.int p.size)) ⟨[], m⟩ := by
  have colsq : ∀ (cs : List Nat), cs = [] ∨ ∃ i r, cs.map natD = .int i :: r := fun cs => by
    cases cs with
    | nil => exact .inl rfl
    | cons i r => exact .inr ⟨i, r.map natD, rfl⟩
  have prsq : ∀ (cs : List (Nat × Nat)), cs = [] ∨ ∃ x r, cs.map prD = .tuple x :: r := fun cs => by
    cases cs with
    | nil => exact .inl rfl
    | cons i r => exact .inr ⟨_, r.map prD, rfl⟩
  induction p with
  | rows t =>
    intro n m hk
    obtain ⟨n, rfl⟩ : ∃ j, n = j + 1 := ⟨n - 1, by omega⟩
    rw [fns__law_things]
    simp [d__law_things, Sn.d, Sn.size]
  | keep a c iha =>
    intro n m hk
    have hd : (Sn.keep a c).deep = max a.deep c.deep + 1 := rfl
    obtain ⟨n, rfl⟩ : ∃ j, n = j + 2 := ⟨n - 2, by omega⟩
    have e1 := iha (n + 1) m (by omega)
    have e2 := things_cd (T := T) c n m (by omega)
    obtain ⟨w1, l1, f1⟩ := a.form
    obtain ⟨w2, l2, f2⟩ := c.form
    rw [f1] at e1
    rw [f2] at e2
    rw [fns__law_things]
    simp [d__law_things, Sn.d, Sn.size, f1, f2, e1, e2]
    omega
  | pick a cs iha =>
    intro n m hk
    have hd : (Sn.pick a cs).deep = a.deep + 1 := rfl
    obtain ⟨n, rfl⟩ : ∃ j, n = j + 2 := ⟨n - 2, by omega⟩
    have e1 := iha (n + 1) m (by omega)
    obtain ⟨w1, l1, f1⟩ := a.form
    rw [f1] at e1
    rw [fns__law_things]
    rcases colsq cs with rfl | ⟨i, r, h⟩
    · simp [d__law_things, Sn.d, Sn.size, f1, e1]
      omega
    · simp [d__law_things, Sn.d, Sn.size, f1, e1, h]
      omega
  | join a b ps iha ihb =>
    intro n m hk
    have hd : (Sn.join a b ps).deep = max a.deep b.deep + 1 := rfl
    obtain ⟨n, rfl⟩ : ∃ j, n = j + 2 := ⟨n - 2, by omega⟩
    have e1 := iha (n + 1) m (by omega)
    have e2 := ihb (n + 1) m (by omega)
    obtain ⟨w1, l1, f1⟩ := a.form
    obtain ⟨w2, l2, f2⟩ := b.form
    rw [f1] at e1
    rw [f2] at e2
    rw [fns__law_things]
    rcases prsq ps with rfl | ⟨x, r, h⟩
    · simp [d__law_things, Sn.d, Sn.size, f1, f2, e1, e2]
      omega
    · simp [d__law_things, Sn.d, Sn.size, f1, f2, e1, e2, h]
      omega
  | both a b iha ihb =>
    intro n m hk
    have hd : (Sn.both a b).deep = max a.deep b.deep + 1 := rfl
    obtain ⟨n, rfl⟩ : ∃ j, n = j + 2 := ⟨n - 2, by omega⟩
    have e1 := iha (n + 1) m (by omega)
    have e2 := ihb (n + 1) m (by omega)
    obtain ⟨w1, l1, f1⟩ := a.form
    obtain ⟨w2, l2, f2⟩ := b.form
    rw [f1] at e1
    rw [f2] at e2
    rw [fns__law_things]
    simp [d__law_things, Sn.d, Sn.size, f1, f2, e1, e2]
    omega
  | without a b iha ihb =>
    intro n m hk
    have hd : (Sn.without a b).deep = max a.deep b.deep + 1 := rfl
    obtain ⟨n, rfl⟩ : ∃ j, n = j + 2 := ⟨n - 2, by omega⟩
    have e1 := iha (n + 1) m (by omega)
    have e2 := ihb (n + 1) m (by omega)
    obtain ⟨w1, l1, f1⟩ := a.form
    obtain ⟨w2, l2, f2⟩ := b.form
    rw [f1] at e1
    rw [f2] at e2
    rw [fns__law_things]
    simp [d__law_things, Sn.d, Sn.size, f1, f2, e1, e2]
    omega
end
def bigB : Nat → Nat
  | 0 => 6
  | d + 1 => bigB d * bigB d
theorem bigB_6 : ∀ d, 6 ≤ bigB d
  | 0 => Nat.le_refl _
  | d + 1 => by
    have h := bigB_6 d
    show 6 ≤ bigB d * bigB d
    exact Nat.le_trans h (Nat.le_trans (by omega) (Nat.mul_le_mul_left (bigB d) (show 1 ≤ bigB d by omega)))
theorem bigB_mono : ∀ {d e : Nat}, d ≤ e → bigB d ≤ bigB e := fun {d e} h => by
  induction h with
  | refl => exact Nat.le_refl _
  | step _ ih =>
    refine Nat.le_trans ih ?_
    rename_i k _
    have h := bigB_6 k
    show bigB k ≤ bigB k * bigB k
    exact Nat.le_trans (by omega) (Nat.mul_le_mul_left (bigB k) (show 1 ≤ bigB k by omega))
theorem many_big (ts : List Tab) (ht : TabsOk ts) : ∀ s : Sn, s.many ts ≤ bigB s.lev := by
  have two : ∀ k a b : Nat, a ≤ bigB k → b ≤ bigB k → max (max a b) (a * b) ≤ bigB (k + 1) ∧ max (max a b) (a + b) ≤ bigB (k + 1) ∧ max a b ≤ bigB (k + 1) := fun k a b ha hb => by
    have h1 := Nat.mul_le_mul ha hb
    have h6 := bigB_6 k
    have h2 : bigB (k + 1) = bigB k * bigB k := rfl
    have h3 : 2 * bigB k ≤ bigB k * bigB k := Nat.mul_le_mul_right _ (by omega)
    omega
  intro s
  induction s with
  | rows t =>
    simp only [Sn.many, Sn.lev, bigB]
    cases h : ts[t]? with
    | none => simp
    | some t' =>
      have := (ht t' (List.mem_of_getElem? h)).few
      simpa using this
  | keep s c ih => exact ih
  | pick s cs ih => exact ih
  | join a b ps iha ihb => exact (two (max a.lev b.lev) _ _ (Nat.le_trans iha (bigB_mono (by omega))) (Nat.le_trans ihb (bigB_mono (by omega)))).1
  | both a b iha ihb => exact (two (max a.lev b.lev) _ _ (Nat.le_trans iha (bigB_mono (by omega))) (Nat.le_trans ihb (bigB_mono (by omega)))).2.1
  | without a b iha ihb => exact (two (max a.lev b.lev) _ _ (Nat.le_trans iha (bigB_mono (by omega))) (Nat.le_trans ihb (bigB_mono (by omega)))).2.2
theorem mulOk_big {a b : Nat} (h : a ≤ bigB 4) : mulOk (a : Int) (b : Int) = true := by
  have h4 : bigB 4 = 2821109907456 := by decide
  rw [h4] at h
  have key : ∀ i j : Int, 0 ≤ i → i ≤ 2821109907456 → mulOk i j = true := fun i j h0 h1 => by
    unfold mulOk
    have : decide (-(2 ^ 64) < i ∧ i < 2 ^ 64) = true := by
      apply decide_eq_true
      omega
    rw [this]
    rfl
  exact key _ _ (by omega) (by omega)
section
variable [CMany T]
theorem many_ok (ts : List Tab) (ht : TabsOk ts) (p : Sn) : ∀ (n : Nat) (m : List Cell), p.deep + 1 ≤ n → p.ok (ts.map Tab.w) → p.lev ≤ 5 → (mdOf T n).fns "_law_many" [.dat p.d, .dat (tabsD ts)] m = .ok (.dat (.int (p.many ts))) ⟨[], m⟩ := by
  induction p with
  | rows t =>
    intro n m hk ho hl
    obtain ⟨n, rfl⟩ : ∃ j, n = j + 1 := ⟨n - 1, by omega⟩
    rw [fns__law_many]
    have ho' : t < ts.length := by simpa using (show t < (ts.map Tab.w).length from ho)
    have h1 : ts[t]? = some ts[t] := List.getElem?_eq_getElem ho'
    have h2 : (t : Int) < ts.length := by omega
    simp [d__law_many, Sn.d, Sn.many, tabsD, h1, h2, Tab.d, tabD]
  | keep a c iha =>
    intro n m hk ho hl
    have hd : (Sn.keep a c).deep = max a.deep c.deep + 1 := rfl
    obtain ⟨n, rfl⟩ : ∃ j, n = j + 1 := ⟨n - 1, by omega⟩
    rw [fns__law_many]
    have e1 := iha n m (by omega) ho.1 hl
    simp [d__law_many, Sn.d, Sn.many, e1]
  | pick a cs iha =>
    intro n m hk ho hl
    have hd : (Sn.pick a cs).deep = a.deep + 1 := rfl
    obtain ⟨n, rfl⟩ : ∃ j, n = j + 1 := ⟨n - 1, by omega⟩
    rw [fns__law_many]
    have e1 := iha n m (by omega) ho.1 hl
    simp [d__law_many, Sn.d, Sn.many, e1]
  | join a b ps iha ihb =>
    intro n m hk ho hl
    have hd : (Sn.join a b ps).deep = max a.deep b.deep + 1 := rfl
    have hl' : (Sn.join a b ps).lev = max a.lev b.lev + 1 := rfl
    obtain ⟨n, rfl⟩ : ∃ j, n = j + 1 := ⟨n - 1, by omega⟩
    rw [fns__law_many]
    have e1 := iha n m (by omega) ho.1 (by omega)
    have e2 := ihb n m (by omega) ho.2.1 (by omega)
    have e3 := mulOk_big (b := b.many ts) (Nat.le_trans (many_big ts ht a) (bigB_mono (show a.lev ≤ 4 by omega)))
    simp [d__law_many, Sn.d, Sn.many, e1, e2, e3]
    rw [← Int.natCast_mul]
    omega
  | both a b iha ihb =>
    intro n m hk ho hl
    have hd : (Sn.both a b).deep = max a.deep b.deep + 1 := rfl
    have hl' : (Sn.both a b).lev = max a.lev b.lev + 1 := rfl
    obtain ⟨n, rfl⟩ : ∃ j, n = j + 1 := ⟨n - 1, by omega⟩
    rw [fns__law_many]
    have e1 := iha n m (by omega) ho.1 (by omega)
    have e2 := ihb n m (by omega) ho.2.1 (by omega)
    simp [d__law_many, Sn.d, Sn.many, e1, e2]
    omega
  | without a b iha ihb =>
    intro n m hk ho hl
    have hd : (Sn.without a b).deep = max a.deep b.deep + 1 := rfl
    have hl' : (Sn.without a b).lev = max a.lev b.lev + 1 := rfl
    obtain ⟨n, rfl⟩ : ∃ j, n = j + 1 := ⟨n - 1, by omega⟩
    rw [fns__law_many]
    have e1 := iha n m (by omega) ho.1 (by omega)
    have e2 := ihb n m (by omega) ho.2.1 (by omega)
    simp [d__law_many, Sn.d, Sn.many, e1, e2]
    omega
end
structure Good (ts : List Tab) (safe : Bool) (dp : Nat) (s : Sn) : Prop where
  ok : s.ok (ts.map Tab.w)
  deep : s.deep ≤ dp
  lev : s.lev ≤ 5
  safe : safe = true → s.safe
  prs : s.prs
structure Asked (ts : List Tab) (safe : Bool) (dp : Nat) (s : Sn) : Prop extends Good ts safe dp s where
  size : s.size ≤ 60
  many : s.many ts ≤ 60
section
variable [CSent T] [WN T]
def sTst : Co := (.bls false (.cons (.cmp .gt (.cal "_law_things" (.cons (.var 5) .nil)) (.kon (.int 60))) (.cons (.cmp .gt (.cal "_law_many" (.cons (.var 5) (.cons (.var 1) .nil))) (.kon (.int 60))) .nil)))
def sBdy : SoL := (.cons (.asg 5 (.sub (.var 5) (.kon (.int 1)))) .nil)
def sEnv (ts : List Tab) (dp : D) (safe : Bool) (e4 : Sl) (x : Sn) : List Sl := [.hnd 0, .dat (tabsD ts), .dat dp, .dat (.bool safe), e4, .dat x.d, .un]
def Sn.fst : Sn → Sn
  | .rows t => .rows t | .keep s _ => s | .pick s _ => s | .join a _ _ => a | .both a _ => a | .without a _ => a
theorem sLoop (ts : List Tab) (ht : TabsOk ts) (dp : D) (safe : Bool) (e4 : Sl) (m : List Cell) (n : Nat) (dd : Nat) (hn : dd + 1 ≤ n) : ∀ (d : Nat) (x : Sn) (N : Nat), x.deep ≤ d → d + 2 ≤ N → Good ts safe dd x →
    ∃ x', Asked ts safe dd x' ∧ wLoop (denT (mdOf T n) sTst) (denSs (mdOf T n) sBdy) N ⟨sEnv ts dp safe e4 x, m⟩ = .ok .nx ⟨sEnv ts dp safe e4 x', m⟩ := by
  have tst : ∀ x : Sn, Good ts safe dd x → denT (mdOf T n) sTst ⟨sEnv ts dp safe e4 x, m⟩ = .ok (decide (60 < x.size) || decide (60 < x.many ts)) ⟨sEnv ts dp safe e4 x, m⟩ := fun x hg => by
    have hd := hg.deep
    have e1 := things_sn (T := T) x n m (by omega)
    have e2 := many_ok (T := T) ts ht x n m (by omega) hg.ok hg.lev
    by_cases h1 : 60 < x.size
    · have h1' : (60 : Int) < x.size := by omega
      simp [sTst, sEnv, e1, h1, h1']
    · have h1' : ¬ (60 : Int) < x.size := by omega
      simp [sTst, sEnv, e1, e2, h1, h1']
      omega
  have stop : ∀ (x : Sn) (N : Nat), Good ts safe dd x → x.size ≤ 60 → x.many ts ≤ 60 → wLoop (denT (mdOf T n) sTst) (denSs (mdOf T n) sBdy) (N + 1) ⟨sEnv ts dp safe e4 x, m⟩ = .ok .nx ⟨sEnv ts dp safe e4 x, m⟩ := fun x N hg h1 h2 => by
    unfold wLoop
    rw [tst x hg]
    have h3 : ¬ (60 < x.size) := by omega
    have h4 : ¬ (60 < x.many ts) := by omega
    simp [h3, h4]
  have go : ∀ (x : Sn) (N : Nat), Good ts safe dd x → (60 < x.size ∨ 60 < x.many ts) → wLoop (denT (mdOf T n) sTst) (denSs (mdOf T n) sBdy) (N + 1) ⟨sEnv ts dp safe e4 x, m⟩ = wLoop (denT (mdOf T n) sTst) (denSs (mdOf T n) sBdy) N ⟨sEnv ts dp safe e4 x.fst, m⟩ := fun x N hg hs => by
    conv => lhs; unfold wLoop
    rw [tst x hg]
    have h3 : (decide (60 < x.size) || decide (60 < x.many ts)) = true := by
      rcases hs with h | h <;> simp [h]
    have hb : denSs (mdOf T n) sBdy ⟨sEnv ts dp safe e4 x, m⟩ = .ok .nx ⟨sEnv ts dp safe e4 x.fst, m⟩ := by
      cases x with
      | rows t =>
        exfalso
        have h5 : (Sn.rows t).many ts ≤ 6 := many_big ts ht (.rows t)
        have h6 : (Sn.rows t).size = 1 := rfl
        omega
      | keep s c => simp [sBdy, sEnv, Sn.d, Sn.fst]
      | pick s c => simp [sBdy, sEnv, Sn.d, Sn.fst]
      | join s c ps => simp [sBdy, sEnv, Sn.d, Sn.fst]
      | both s c => simp [sBdy, sEnv, Sn.d, Sn.fst]
      | without s c => simp [sBdy, sEnv, Sn.d, Sn.fst]
    show (if (decide (60 < x.size) || decide (60 < x.many ts)) = true then _ else _) = _
    rw [if_pos h3, hb]
    rfl
  intro d
  induction d with
  | zero =>
    intro x N hx hN hg
    obtain ⟨N, rfl⟩ : ∃ j, N = j + 1 := ⟨N - 1, by omega⟩
    cases x with
    | rows t =>
      have h5 : (Sn.rows t).many ts ≤ 6 := many_big ts ht (.rows t)
      have h6 : (Sn.rows t).size = 1 := rfl
      exact ⟨.rows t, ⟨hg, by omega, by omega⟩, stop _ N hg (by omega) (by omega)⟩
    | keep s c => exact absurd hx (by show ¬ (max _ _ + 1 ≤ 0); omega)
    | pick s c => exact absurd hx (by show ¬ (_ + 1 ≤ 0); omega)
    | join s c ps => exact absurd hx (by show ¬ (max _ _ + 1 ≤ 0); omega)
    | both s c => exact absurd hx (by show ¬ (max _ _ + 1 ≤ 0); omega)
    | without s c => exact absurd hx (by show ¬ (max _ _ + 1 ≤ 0); omega)
  | succ d ih =>
    intro x N hx hN hg
    obtain ⟨N, rfl⟩ : ∃ j, N = j + 1 := ⟨N - 1, by omega⟩
    by_cases hs : x.size ≤ 60 ∧ x.many ts ≤ 60
    · exact ⟨x, ⟨hg, hs.1, hs.2⟩, stop x N hg hs.1 hs.2⟩
    · have g := go x N hg (by omega)
      have fin : x.fst.deep ≤ d → Good ts safe dd x.fst → ∃ x', Asked ts safe dd x' ∧ wLoop (denT (mdOf T n) sTst) (denSs (mdOf T n) sBdy) (N + 1) ⟨sEnv ts dp safe e4 x, m⟩ = .ok .nx ⟨sEnv ts dp safe e4 x', m⟩ := fun h1 h2 => by
        obtain ⟨x', h3, h4⟩ := ih x.fst N h1 (by omega) h2
        exact ⟨x', h3, g.trans h4⟩
      have hd := hg.deep
      have hl := hg.lev
      cases x with
      | rows t =>
        exfalso
        have h5 : (Sn.rows t).many ts ≤ 6 := many_big ts ht (.rows t)
        have h6 : (Sn.rows t).size = 1 := rfl
        omega
      | keep s c =>
        have h1 : (Sn.keep s c).deep = max s.deep c.deep + 1 := rfl
        exact fin (by show s.deep ≤ d; omega) ⟨hg.ok.1, by show s.deep ≤ dd; omega, hl, (fun h => (hg.safe h).1), hg.prs⟩
      | pick s c =>
        have h1 : (Sn.pick s c).deep = s.deep + 1 := rfl
        exact fin (by show s.deep ≤ d; omega) ⟨hg.ok.1, by show s.deep ≤ dd; omega, hl, hg.safe, hg.prs⟩
      | join s c ps =>
        have h1 : (Sn.join s c ps).deep = max s.deep c.deep + 1 := rfl
        have h2 : (Sn.join s c ps).lev = max s.lev c.lev + 1 := rfl
        exact fin (by show s.deep ≤ d; omega) ⟨hg.ok.1, by show s.deep ≤ dd; omega, by show s.lev ≤ 5; omega, (fun h => (hg.safe h).1), hg.prs.1⟩
      | both s c =>
        have h1 : (Sn.both s c).deep = max s.deep c.deep + 1 := rfl
        have h2 : (Sn.both s c).lev = max s.lev c.lev + 1 := rfl
        exact fin (by show s.deep ≤ d; omega) ⟨hg.ok.1, by show s.deep ≤ dd; omega, by show s.lev ≤ 5; omega, (fun h => (hg.safe h).1), hg.prs.1⟩
      | without s c =>
        have h1 : (Sn.without s c).deep = max s.deep c.deep + 1 := rfl
        have h2 : (Sn.without s c).lev = max s.lev c.lev + 1 := rfl
        exact fin (by show s.deep ≤ d; omega) ⟨hg.ok.1, by show s.deep ≤ dd; omega, by show s.lev ≤ 5; omega, (fun h => (hg.safe h).1), hg.prs.1⟩
theorem tabs_ws {mo : Nat} {ts : List Tab} (ht : Tabs mo ts) : (∀ w ∈ ts.map Tab.w, 1 ≤ w ∧ w ≤ 4) ∧ 1 ≤ (ts.map Tab.w).length ∧ (ts.map Tab.w).length ≤ 3 :=
  ⟨fun w hw => by obtain ⟨t, h, rfl⟩ := List.mem_map.mp hw; exact ⟨(ht.ok t h).w1, (ht.ok t h).w4⟩, by simpa using ht.one, by simpa using ht.three⟩
theorem law_sentence (mo : Nat) (ts : List Tab) (ht : Tabs mo ts) (safe : Bool) (deep : Nat) (hd : deep ≤ 5) (n : Nat) (hn : 2 * deep + 12 ≤ n) (rest : List Cell) (c : Cell) (hc : Dc c) :
    ∃ (s : Sn) (c' : Cell), Dc c' ∧ Asked ts safe (2 * deep + 6) s ∧ (mdOf T n).fns "_law_sentence" [.hnd 0, .dat (tabsD ts), .dat (.int deep), .dat (.bool safe)] (c :: rest) = .ok (.dat s.d) ⟨[], c' :: rest⟩ := by
  obtain ⟨n, rfl⟩ : ∃ j, n = j + 1 := ⟨n - 1, by omega⟩
  obtain ⟨w1, w2, w3⟩ := tabs_ws ht
  obtain ⟨s, c2, d2, k2, e2⟩ := law_any (T := T) (ts.map Tab.w) w1 w2 w3 safe deep n rest c hc (by omega)
  have hdp := k2.deep
  have hg : Good ts safe (2 * deep + 6) s := ⟨k2.ok, k2.deep, by have := k2.lev; omega, k2.safe, k2.prs⟩
  obtain ⟨s', k3, e3⟩ := sLoop (T := T) ts ht.tok (.int deep) safe (.dat (.list ((ts.map Tab.w).map natD))) (c2 :: rest) n (2 * deep + 6) (by omega) (2 * deep + 6) s 100000 k2.deep (by omega) hg
  refine ⟨s', c2, d2, k3, ?_⟩
  rw [fns__law_sentence]
  have e := cl_map (tg := .nm 6) (m := den (mdOf T n) (.sub (.var 6) (.kon (.int 0)))) (vs := [6]) Tab.d (fun t => natD t.w) [.hnd 0, .dat (tabsD ts), .dat (.int deep), .dat (.bool safe), .un, .un, .un] (c :: rest) ts (fun t ht => by
    refine ⟨_, .dat (natD t.w), [.hnd 0, .dat (tabsD ts), .dat (.int deep), .dat (.bool safe), .un, .un, .dat t.d], rfl, ?_, rfl, rfl⟩
    simp [Tab.d, tabD, natD]) []
  have hA : denS (mdOf T n) (.asg 4 (.com (.nm 6) (.seq (.var 1)) .nil (.sub (.var 6) (.kon (.int 0))) [("_law_table", 6)])) ⟨[.hnd 0, .dat (tabsD ts), .dat (.int deep), .dat (.bool safe), .un, .un, .un], c :: rest⟩ = .ok .nx ⟨[.hnd 0, .dat (tabsD ts), .dat (.int deep), .dat (.bool safe), .own ((ts.map Tab.w).map natD), .un, .un], c :: rest⟩ := by
    have b1 : ts.length ≤ 1000 := by have := ht.three; omega
    simp [tabsD] at e
    simp [tabsD, b1, e, Function.comp_def]
  have hB : denS (mdOf T n) (.asg 5 (.sub (.cal "_law_any" (.cons (.var 0) (.cons (.var 4) (.cons (.var 2) (.cons (.var 3) .nil))))) (.kon (.int 0)))) ⟨[.hnd 0, .dat (tabsD ts), .dat (.int deep), .dat (.bool safe), .own ((ts.map Tab.w).map natD), .un, .un], c :: rest⟩ = .ok .nx ⟨sEnv ts (.int deep) safe (.dat (.list ((ts.map Tab.w).map natD))) s, c2 :: rest⟩ := by
    simp [sEnv, e2, -List.map_map]
  have hC : denS (mdOf T n) (.whl sTst sBdy) ⟨sEnv ts (.int deep) safe (.dat (.list ((ts.map Tab.w).map natD))) s, c2 :: rest⟩ = .ok .nx ⟨sEnv ts (.int deep) safe (.dat (.list ((ts.map Tab.w).map natD))) s', c2 :: rest⟩ := by
    rw [Sp.denS_whl, wn_eq]
    exact e3
  have hD : denS (mdOf T n) (.mov 5) ⟨sEnv ts (.int deep) safe (.dat (.list ((ts.map Tab.w).map natD))) s', c2 :: rest⟩ = .ok (.ret (.dat s'.d)) ⟨sEnv ts (.int deep) safe (.dat (.list ((ts.map Tab.w).map natD))) s', c2 :: rest⟩ := by
    simp [sEnv]
  exact run_ret (d := d__law_sentence) (args := [.hnd 0, .dat (tabsD ts), .dat (.int deep), .dat (.bool safe)]) (m := c :: rest) rfl rfl ((ss_nx hA).trans ((ss_nx hB).trans ((ss_nx hC).trans (ss_ret hD))))
end
end Gq
end

section
namespace Gq
open PySem PySem.Spec L2
variable {T : Tb}
theorem oAnd_comm (a b : Tv) : oAnd a b = oAnd b a := by
  rcases a with _ | a <;> rcases b with _ | b <;> try cases a
  all_goals try cases b
  all_goals rfl
theorem oAnd_assoc (a b c : Tv) : oAnd (oAnd a b) c = oAnd a (oAnd b c) := by
  rcases a with _ | a <;> rcases b with _ | b <;> rcases c with _ | c <;> try cases a
  all_goals try cases b
  all_goals try cases c
  all_goals rfl
@[simp] theorem oAnd_true (a : Tv) : oAnd a (some true) = a := by
  rcases a with _ | a <;> try cases a
  all_goals rfl
@[simp] theorem true_oAnd (a : Tv) : oAnd (some true) a = a := by rw [oAnd_comm, oAnd_true]
theorem code_and (a b : Tv) : code (oAnd a b) = min (code a) (code b) := by
  rcases a with _ | a <;> rcases b with _ | b <;> try cases a
  all_goals try cases b
  all_goals rfl
theorem code_or (a b : Tv) : code (oOr a b) = max (code a) (code b) := by
  rcases a with _ | a <;> rcases b with _ | b <;> try cases a
  all_goals try cases b
  all_goals rfl
theorem code_not (a : Tv) : code (oNot a) = 2 - code a := by
  rcases a with _ | a <;> try cases a
  all_goals rfl
theorem code_pos (a : Tv) : decide (0 < code a) = (a != some false) := by
  rcases a with _ | a <;> try cases a
  all_goals rfl
theorem foldl_and {β : Type} (f : β → Tv) : ∀ (l : List β) (t : Tv), l.foldl (fun t p => oAnd t (f p)) t = oAnd t (l.foldl (fun t p => oAnd t (f p)) (some true))
  | [], t => by simp
  | x :: l, t => by
    rw [List.foldl_cons, List.foldl_cons, foldl_and f l, foldl_and f l (oAnd (some true) (f x)), true_oAnd, oAnd_assoc]
theorem min_codes {β : Type} (f : β → Tv) : ∀ (l : List β) (t : Tv) (ns : List Int), minOf ns = code t → ns ≠ [] → minOf (l.map (fun x => code (f x)) ++ ns) = code (oAnd t (l.foldl (fun t p => oAnd t (f p)) (some true)))
  | [], t, ns, h, h0 => by simpa using h
  | x :: l, t, ns, h, h0 => by
    have ih := min_codes f l t ns h h0
    have e : ∀ (i : Int) (r : List Int), r ≠ [] → minOf (i :: r) = min i (minOf r) := fun i r hr => by
      cases r with
      | nil => exact absurd rfl hr
      | cons j r => rfl
    rw [List.map_cons, List.cons_append, e _ _ (by simp [h0]), ih, List.foldl_cons, true_oAnd, foldl_and f l (f x), ← code_and, ← oAnd_assoc, ← oAnd_assoc, oAnd_comm t (f x)]
theorem intsOf_app : ∀ (a b : List D) (x y : List Int), intsOf a = some x → intsOf b = some y → intsOf (a ++ b) = some (x ++ y)
  | [], b, x, y, h, h' => by
    cases h
    simpa using h'
  | .int i :: a, b, x, y, h, h' => by
    simp only [Sp.intsOf_cons, Option.map_eq_some_iff] at h
    obtain ⟨z, h1, rfl⟩ := h
    rw [List.cons_append, Sp.intsOf_cons, intsOf_app a b z y h1 h']
    rfl
  | .none :: _, _, _, _, h, _ => by cases h
  | .bool _ :: _, _, _, _, h, _ => by cases h
  | .str _ :: _, _, _, _, h, _ => by cases h
  | .list _ :: _, _, _, _, h, _ => by cases h
  | .tuple _ :: _, _, _, _, h, _ => by cases h
  | .dict _ :: _, _, _, _, h, _ => by cases h
theorem intsOf_codes {β : Type} (f : β → Tv) : ∀ l : List β, intsOf (l.map fun x => PyData.int (code (f x))) = some (l.map fun x => code (f x))
  | [] => rfl
  | x :: l => by rw [List.map_cons, Sp.intsOf_cons, intsOf_codes f l]; rfl
theorem min_one {β : Type} (f : β → Tv) (l : List β) (t : Tv) : gMin (.list ((l.map fun x => PyData.int (code (f x))) ++ [.int (code t)])) = some (.dat (.int (code (oAnd t (l.foldl (fun t p => oAnd t (f p)) (some true)))))) := by
  have h := intsOf_app _ _ _ _ (intsOf_codes f l) (show intsOf [.int (code t)] = some [code t] from rfl)
  rw [Sp.min_l, h, Option.bind_some, if_neg (by simp), min_codes f l t [code t] rfl (by simp)]
theorem min_two {β : Type} (f : β → Tv) (l : List β) (t u : Tv) : gMin (.list ((l.map fun x => PyData.int (code (f x))) ++ [.int (code t), .int (code u)])) = some (.dat (.int (code (oAnd (oAnd t u) (l.foldl (fun t p => oAnd t (f p)) (some true)))))) := by
  have h := intsOf_app _ _ _ _ (intsOf_codes f l) (show intsOf [.int (code t), .int (code u)] = some [code t, code u] from rfl)
  rw [Sp.min_l, h, Option.bind_some, if_neg (by simp), min_codes f l (oAnd t u) [code t, code u] (by rw [code_and]; rfl) (by simp)]
theorem fl_pre {β : Type} {tg : Tg} {body : Mo Fl} (g : β → D) (R : List β → S → Prop) (xs : List β) (h : ∀ pre x post, xs = pre ++ x :: post → ∀ s, R pre s → ∃ e s', tgSet tg (g x) s.env = some e ∧ body { s with env := e } = .ok .nx s' ∧ R (pre ++ [x]) s') : ∀ s, R [] s → ∃ s', fLoop tg body (xs.map g) s = .ok .nx s' ∧ R xs s' := by
  have key : ∀ (post pre : List β), xs = pre ++ post → ∀ s, R pre s → ∃ s', fLoop tg body (post.map g) s = .ok .nx s' ∧ R xs s' := by
    intro post
    induction post with
    | nil => intro pre hx s hs; rw [List.append_nil] at hx; subst hx; exact ⟨s, rfl, hs⟩
    | cons x post ih =>
      intro pre hx s hs
      obtain ⟨e, s1, h1, h2, h3⟩ := h pre x post hx s hs
      obtain ⟨s2, h4, h5⟩ := ih (pre ++ [x]) (by rw [hx]; simp) s1 h3
      refine ⟨s2, ?_, h5⟩
      rw [List.map_cons]
      unfold fLoop
      rw [h1]
      show (body ⟨e, s.mem⟩).bind _ = _
      rw [h2]
      exact h4
  exact fun s hs => key xs [] rfl s hs
def rcD (p : Rt) : D := .list [rowD p.1, .int (code p.2)]
section
variable [CLRows T]
theorem held_cl (n : Nat) (hn : 2 ≤ n) (m : List Cell) (x y : Cl) : (mdOf T n).fns "_law_held" [.dat (.str "is"), .dat x.d, .dat y.d] m = .ok (.dat (.int (code (x.same y)))) ⟨[], m⟩ := by
  obtain ⟨n, rfl⟩ : ∃ j, n = j + 2 := ⟨n - 2, by omega⟩
  have := held_is (T := T) n m x.wv y.wv
  rw [wvC, wvC] at this
  exact this
def tEnv (word : String) (l k pr : D) (a : List Rt) (x5 x6 x7 x8 x9 x10 x11 : Sl) : List Sl := [.dat (.str word), .dat l, .dat k, .dat pr, .own (a.map rcD), x5, x6, x7, x8, x9, x10, x11, .un, .un, .un, .un]
def nearC : Co := (.com (.tp [12, 13]) (.zip (.cons (.var 5) (.cons (.var 8) .nil))) .nil (.cal "_law_held" (.cons (.kon (.str "is")) (.cons (.var 12) (.cons (.var 13) .nil)))) [("_law_a", 12), ("_law_b", 13)])
theorem near_ok (n : Nat) (hn : 2 ≤ n) (m : List Cell) (word : String) (l k pr : D) (a : List Rt) (r q : List Cl) (hr : r.length ≤ 8) (x6 x7 x9 x10 x11 : Sl) :
    den (mdOf T n) nearC ⟨tEnv word l k pr a (.dat (rowD r)) x6 x7 (.dat (rowD q)) x9 x10 x11, m⟩ = .ok (.fr ((r.zip q).map fun p => .int (code (p.1.same p.2)))) ⟨tEnv word l k pr a (.dat (rowD r)) x6 x7 (.dat (rowD q)) x9 x10 x11, m⟩ := by
  have e := cl_map (tg := .tp [12, 13]) (m := den (mdOf T n) (.cal "_law_held" (.cons (.kon (.str "is")) (.cons (.var 12) (.cons (.var 13) .nil))))) (vs := [12, 13]) (fun p : Cl × Cl => PyData.tuple [p.1.d, p.2.d]) (fun p => .int (code (p.1.same p.2))) (tEnv word l k pr a (.dat (rowD r)) x6 x7 (.dat (rowD q)) x9 x10 x11) m (r.zip q) (fun p hp => by
    have e1 := held_cl (T := T) n hn m p.1 p.2
    refine ⟨_, .dat (.int (code (p.1.same p.2))), (tEnv word l k pr a (.dat (rowD r)) x6 x7 (.dat (rowD q)) x9 x10 x11).set 12 (.dat p.1.d) |>.set 13 (.dat p.2.d), rfl, ?_, rfl, rfl⟩
    simp [tEnv, e1]) []
  have z := zip_rows r q
  have hz : (r.zip q).length ≤ 1000 := by rw [List.length_zip]; omega
  have hz' : min r.length q.length ≤ 1000 := by omega
  simp [tEnv, rowD] at e
  simp [nearC, tEnv, rowD, z, hz', e]
def wIn : SoL := (.cons (.asg 10 nearC) (.cons (.iff (.cmp .eq (.var 0) (.kon (.str "without"))) (.cons (.asg 7 (.bln .max (.cons (.var 7) (.cons (.bl1 .min (.bin .add (.var 10) (.lst (.cons (.var 9) .nil)))) .nil)))) .nil) (.cons (.asg 11 (.com (.tp [14, 15]) (.seq (.sub (.var 3) (.kon (.int 0)))) .nil (.cal "_law_held" (.cons (.kon (.str "is")) (.cons (.sub (.var 5) (.var 14)) (.cons (.sub (.var 8) (.var 15)) .nil)))) [("_law_i", 14), ("_law_j", 15)])) (.cons (.exp (.mut .append 4 (.cons (.lst (.cons (.bin .add (.var 5) (.var 8)) (.cons (.bl1 .min (.bin .add (.var 11) (.lst (.cons (.var 6) (.cons (.var 9) .nil))))) .nil))) .nil))) .nil))) .nil))
def wOut : SoL := (.cons (.asg 7 (.kon (.int 0))) (.cons (.lop (.tp [8, 9]) (.seq (.var 2)) wIn) (.cons (.iff (.cmp .eq (.var 0) (.kon (.str "without"))) (.cons (.exp (.mut .append 4 (.cons (.lst (.cons (.var 5) (.cons (.bln .min (.cons (.var 6) (.cons (.bin .sub (.kon (.int 2)) (.var 7)) .nil))) .nil))) .nil))) .nil) .nil) .nil)))
theorem seq_var {md : Md} {i : Nat} {ds : List D} {s : S} (h : s.env[i]? = some (.dat (.list ds))) : denI md (.seq (.var i)) s = .ok ds s := by
  simp [h]
theorem lop_run {md : Md} {tg : Tg} {it : CoI} {body : SoL} {s s' s2 : S} {ds : List D} (h : denI md it s = .ok ds s') (h2 : fLoop tg (denSs md body) ds s' = .ok .nx s2) : denS md (.lop tg it body) s = .ok .nx s2 := by
  rw [Sp.denS_lop]
  show (denI md it s).bind _ = _
  rw [h]
  exact h2
theorem two_without (n : Nat) (hn : 3 ≤ n) (m : List Cell) (l k : List Rt) (hl : Sp.Lim l.length) (v : Nat) (h8 : v ≤ 8) (hv : ∀ p ∈ l, p.1.length = v) : (mdOf T n).fns "_law_two" [.dat (.str "without"), .dat (.list (l.map rcD)), .dat (.list (k.map rcD)), .dat (.tuple [])] m = .ok (.fr ((l.map fun p => (p.1, oAnd p.2 (oNot (amongT p.1 k)))).map rcD)) ⟨[], m⟩ := by
  obtain ⟨n, rfl⟩ : ∃ j, n = j + 1 := ⟨n - 1, by omega⟩
  rw [fns__law_two]
  have hin : ∀ (p : Rt), p ∈ l → ∀ (a : List Rt) (x6 x8 x9 x10 x11 : Sl), ∃ s', fLoop (.tp [8, 9]) (denSs (mdOf T n) wIn) (k.map rcD) ⟨tEnv "without" (.list (l.map rcD)) (.list (k.map rcD)) (.tuple []) a (.dat (rowD p.1)) x6 (.dat (.int 0)) x8 x9 x10 x11, m⟩ = .ok .nx s' ∧ ∃ x8 x9 x10, s' = ⟨tEnv "without" (.list (l.map rcD)) (.list (k.map rcD)) (.tuple []) a (.dat (rowD p.1)) x6 (.dat (.int (code (amongT p.1 k)))) x8 x9 x10 x11, m⟩ := by
    intro p hp a x6 x8 x9 x10 x11
    exact fl_foldM (tg := .tp [8, 9]) (body := denSs (mdOf T n) wIn) rcD (fun (t : Tv) q => oOr t (oAnd q.2 (sameT p.1 q.1))) (fun t s => ∃ x8 x9 x10, s = ⟨tEnv "without" (.list (l.map rcD)) (.list (k.map rcD)) (.tuple []) a (.dat (rowD p.1)) x6 (.dat (.int (code t))) x8 x9 x10 x11, m⟩) k (fun q hq t s hs => by
      obtain ⟨x8, x9, x10, rfl⟩ := hs
      have e1 := near_ok (T := T) n (by omega) m "without" (.list (l.map rcD)) (.list (k.map rcD)) (.tuple []) a p.1 q.1 (by rw [hv p hp]; exact h8) x6 (.dat (.int (code t))) (.dat (.int (code q.2))) x10 x11
      have e2 := min_one (fun z : Cl × Cl => z.1.same z.2) (p.1.zip q.1) q.2
      have hz : min p.1.length q.1.length + 1 ≤ 1000 := by rw [hv p hp]; omega
      refine ⟨tEnv "without" (.list (l.map rcD)) (.list (k.map rcD)) (.tuple []) a (.dat (rowD p.1)) x6 (.dat (.int (code t))) (.dat (rowD q.1)) (.dat (.int (code q.2))) x10 x11, _, rfl, (ss_nx (s' := ⟨tEnv "without" (.list (l.map rcD)) (.list (k.map rcD)) (.tuple []) a (.dat (rowD p.1)) x6 (.dat (.int (code t))) (.dat (rowD q.1)) (.dat (.int (code q.2))) (.own ((p.1.zip q.1).map fun p => .int (code (p.1.same p.2)))) x11, m⟩) ?_).trans (ss_nx (s' := ⟨tEnv "without" (.list (l.map rcD)) (.list (k.map rcD)) (.tuple []) a (.dat (rowD p.1)) x6 (.dat (.int (code (oOr t (oAnd q.2 (sameT p.1 q.1)))))) (.dat (rowD q.1)) (.dat (.int (code q.2))) (.own ((p.1.zip q.1).map fun p => .int (code (p.1.same p.2)))) x11, m⟩) ?_), _, _, _, rfl⟩
      · rw [Sp.denS_asg, Sp.asgS_ap]
        show (den (mdOf T n) nearC ⟨tEnv "without" (.list (l.map rcD)) (.list (k.map rcD)) (.tuple []) a (.dat (rowD p.1)) x6 (.dat (.int (code t))) (.dat (rowD q.1)) (.dat (.int (code q.2))) x10 x11, m⟩).bind _ = _
        rw [e1]
        rfl
      · simp [tEnv, hz, e2, code_or, sameT]) (some false) ⟨tEnv "without" (.list (l.map rcD)) (.list (k.map rcD)) (.tuple []) a (.dat (rowD p.1)) x6 (.dat (.int 0)) x8 x9 x10 x11, m⟩ ⟨x8, x9, x10, rfl⟩
  obtain ⟨s', e, x5, x6, x7, x8, x9, x10, rfl⟩ := fl_pre (tg := .tp [5, 6]) (body := denSs (mdOf T n) wOut) rcD (fun pre s => ∃ x5 x6 x7 x8 x9 x10, s = ⟨tEnv "without" (.list (l.map rcD)) (.list (k.map rcD)) (.tuple []) (pre.map fun p => (p.1, oAnd p.2 (oNot (amongT p.1 k)))) x5 x6 x7 x8 x9 x10 .un, m⟩) l (fun pre p post hx s hs => by
    obtain ⟨x5, x6, x7, x8, x9, x10, rfl⟩ := hs
    have hp : p ∈ l := by rw [hx]; simp
    have hlen : pre.length < l.length := by rw [hx]; simp
    have hlim : Sp.Lim (pre.length + 1) := by have : l.length ≤ 1000000 := hl; show pre.length + 1 ≤ 1000000; omega
    obtain ⟨s1, f1, y8, y9, y10, rfl⟩ := hin p hp (pre.map fun p => (p.1, oAnd p.2 (oNot (amongT p.1 k)))) (.dat (.int (code p.2))) x8 x9 x10 .un
    refine ⟨tEnv "without" (.list (l.map rcD)) (.list (k.map rcD)) (.tuple []) (pre.map fun p => (p.1, oAnd p.2 (oNot (amongT p.1 k)))) (.dat (rowD p.1)) (.dat (.int (code p.2))) x7 x8 x9 x10 .un, ⟨tEnv "without" (.list (l.map rcD)) (.list (k.map rcD)) (.tuple []) ((pre ++ [p]).map fun p => (p.1, oAnd p.2 (oNot (amongT p.1 k)))) (.dat (rowD p.1)) (.dat (.int (code p.2))) (.dat (.int (code (amongT p.1 k)))) y8 y9 y10 .un, m⟩, rfl, (ss_nx (s' := ⟨tEnv "without" (.list (l.map rcD)) (.list (k.map rcD)) (.tuple []) (pre.map fun p => (p.1, oAnd p.2 (oNot (amongT p.1 k)))) (.dat (rowD p.1)) (.dat (.int (code p.2))) (.dat (.int 0)) x8 x9 x10 .un, m⟩) ?_).trans ((ss_nx (lop_run (seq_var rfl) f1)).trans (ss_nx ?_)), _, _, _, _, _, _, rfl⟩
    · simp [tEnv]
    · simp [tEnv, hlim, rcD, code_and, code_not]) ⟨tEnv "without" (.list (l.map rcD)) (.list (k.map rcD)) (.tuple []) [] .un .un .un .un .un .un .un, m⟩ ⟨.un, .un, .un, .un, .un, .un, rfl⟩
  refine run_ret (d := d__law_two) (args := [.dat (.str "without"), .dat (.list (l.map rcD)), .dat (.list (k.map rcD)), .dat (.tuple [])]) (m := m) rfl rfl ((ss_nx (s' := ⟨[.dat (.str "without"), .dat (.list (l.map rcD)), .dat (.list (k.map rcD)), .dat (.tuple []), .un, .un, .un, .un, .un, .un, .un, .un, .un, .un, .un, .un], m⟩) ?_).trans ((ss_nx (s' := ⟨tEnv "without" (.list (l.map rcD)) (.list (k.map rcD)) (.tuple []) [] .un .un .un .un .un .un .un, m⟩) ?_).trans ((ss_nx (lop_run (seq_var rfl) e)).trans (ss_ret (s' := ⟨(tEnv "without" (.list (l.map rcD)) (.list (k.map rcD)) (.tuple []) (l.map fun p => (p.1, oAnd p.2 (oNot (amongT p.1 k)))) x5 x6 x7 x8 x9 x10 .un).set 4 .un, m⟩) ?_))))
  · simp [d__law_two]
  · simp [tEnv]
  · simp [tEnv]
end
end Gq
end

section
namespace Gq
open PySem PySem.Spec L2
variable {T : Tb}
section
variable [CLRows T]
theorem two_both (n : Nat) (hn : 1 ≤ n) (m : List Cell) (l k : List Rt) (hl : Sp.Lim (l.length + k.length)) : (mdOf T n).fns "_law_two" [.dat (.str "both"), .dat (.list (l.map rcD)), .dat (.list (k.map rcD)), .dat (.tuple [])] m = .ok (.fr ((l ++ k).map rcD)) ⟨[], m⟩ := by
  obtain ⟨n, rfl⟩ : ∃ j, n = j + 1 := ⟨n - 1, by omega⟩
  rw [fns__law_two]
  simp [d__law_two, hl]
def tjr (ps : List (Nat × Nat)) (p q : Rt) : Rt := (p.1 ++ q.1, oAnd (oAnd p.2 q.2) (pairsT p.1 q.1 ps))
theorem two_join (n : Nat) (hn : 3 ≤ n) (m : List Cell) (l k : List Rt) (hl : Sp.Lim (l.length * k.length)) (ps : List (Nat × Nat)) (hps : ps.length ≤ 500) (v w : Nat) (hv : ∀ p ∈ l, p.1.length = v) (hw : ∀ p ∈ k, p.1.length = w) (h8 : v + w ≤ 8) (hp : ∀ p ∈ ps, p.1 < v ∧ p.2 < w) : (mdOf T n).fns "_law_two" [.dat (.str "join"), .dat (.list (l.map rcD)), .dat (.list (k.map rcD)), .dat (.tuple [.tuple (ps.map prD)])] m = .ok (.fr ((l.flatMap fun p => k.map (tjr ps p)).map rcD)) ⟨[], m⟩ := by
  obtain ⟨n, rfl⟩ : ∃ j, n = j + 1 := ⟨n - 1, by omega⟩
  rw [fns__law_two]
  let E := fun (a : List Rt) (x5 x6 x7 x8 x9 x10 x11 : Sl) => tEnv "join" (.list (l.map rcD)) (.list (k.map rcD)) (.tuple [.tuple (ps.map prD)]) a x5 x6 x7 x8 x9 x10 x11
  have hin : ∀ (p : Rt), p ∈ l → ∀ (a : List Rt) (x8 x9 x10 x11 : Sl), a.length + k.length ≤ l.length * k.length → ∃ s', fLoop (.tp [8, 9]) (denSs (mdOf T n) wIn) (k.map rcD) ⟨E a (.dat (rowD p.1)) (.dat (.int (code p.2))) (.dat (.int 0)) x8 x9 x10 x11, m⟩ = .ok .nx s' ∧ ∃ x8 x9 x10 x11, s' = ⟨E (a ++ k.map (tjr ps p)) (.dat (rowD p.1)) (.dat (.int (code p.2))) (.dat (.int 0)) x8 x9 x10 x11, m⟩ := by
    intro p hpl a x8 x9 x10 x11 ha
    exact fl_pre (tg := .tp [8, 9]) (body := denSs (mdOf T n) wIn) rcD (fun pre s => ∃ x8 x9 x10 x11, s = ⟨E (a ++ pre.map (tjr ps p)) (.dat (rowD p.1)) (.dat (.int (code p.2))) (.dat (.int 0)) x8 x9 x10 x11, m⟩) k (fun pre q post hx s hs => by
      obtain ⟨x8, x9, x10, x11, rfl⟩ := hs
      have hq : q ∈ k := by rw [hx]; simp
      have hlen : pre.length < k.length := by rw [hx]; simp
      have hlim : Sp.Lim (a.length + pre.length + 1) := by have : l.length * k.length ≤ 1000000 := hl; show _ ≤ 1000000; omega
      have hv1 := hv p hpl
      have hw1 := hw q hq
      have e1 := near_ok (T := T) n (by omega) m "join" (.list (l.map rcD)) (.list (k.map rcD)) (.tuple [.tuple (ps.map prD)]) (a ++ pre.map (tjr ps p)) p.1 q.1 (by omega) (.dat (.int (code p.2))) (.dat (.int 0)) (.dat (.int (code q.2))) x10 x11
      let nr : Sl := .own ((p.1.zip q.1).map fun z => .int (code (z.1.same z.2)))
      have e2 := cl_map (tg := .tp [14, 15]) (m := den (mdOf T n) (.cal "_law_held" (.cons (.kon (.str "is")) (.cons (.sub (.var 5) (.var 14)) (.cons (.sub (.var 8) (.var 15)) .nil))))) (vs := [14, 15]) prD (fun z => .int (code ((at0 p.1 z.1).same (at0 q.1 z.2)))) (E (a ++ pre.map (tjr ps p)) (.dat (rowD p.1)) (.dat (.int (code p.2))) (.dat (.int 0)) (.dat (rowD q.1)) (.dat (.int (code q.2))) nr x11) m ps (fun z hz => by
        obtain ⟨h1, h2⟩ := hp z hz
        have b1 : z.1 < p.1.length := by omega
        have b2 : z.2 < q.1.length := by omega
        have b3 : (z.1 : Int) < p.1.length := by omega
        have b4 : (z.2 : Int) < q.1.length := by omega
        have b5 : p.1[z.1]? = some p.1[z.1] := List.getElem?_eq_getElem b1
        have b6 : q.1[z.2]? = some q.1[z.2] := List.getElem?_eq_getElem b2
        have e3 := held_cl (T := T) n (by omega) m p.1[z.1] q.1[z.2]
        refine ⟨_, .dat (.int (code ((at0 p.1 z.1).same (at0 q.1 z.2)))), ((E (a ++ pre.map (tjr ps p)) (.dat (rowD p.1)) (.dat (.int (code p.2))) (.dat (.int 0)) (.dat (rowD q.1)) (.dat (.int (code q.2))) nr x11).set 14 (.dat (.int z.1))).set 15 (.dat (.int z.2)), rfl, ?_, rfl, rfl⟩
        simp [E, tEnv, rowD, b3, b4, b5, b6, e3, at0, List.getD]) []
      have e4 := min_two (fun z : Nat × Nat => (at0 p.1 z.1).same (at0 q.1 z.2)) ps p.2 q.2
      have hz : ps.length + 2 ≤ 1000 := by omega
      have hz1 : ps.length ≤ 1000 := by omega
      have hz2 : p.1.length + q.1.length ≤ 1000 := by omega
      refine ⟨E (a ++ pre.map (tjr ps p)) (.dat (rowD p.1)) (.dat (.int (code p.2))) (.dat (.int 0)) (.dat (rowD q.1)) (.dat (.int (code q.2))) x10 x11, _, rfl, (ss_nx (s' := ⟨E (a ++ pre.map (tjr ps p)) (.dat (rowD p.1)) (.dat (.int (code p.2))) (.dat (.int 0)) (.dat (rowD q.1)) (.dat (.int (code q.2))) nr x11, m⟩) ?_).trans (ss_nx (s' := ⟨E (a ++ (pre ++ [q]).map (tjr ps p)) (.dat (rowD p.1)) (.dat (.int (code p.2))) (.dat (.int 0)) (.dat (rowD q.1)) (.dat (.int (code q.2))) nr (.own (ps.map fun z => .int (code ((at0 p.1 z.1).same (at0 q.1 z.2))))), m⟩) ?_), _, _, _, _, rfl⟩
      · rw [Sp.denS_asg, Sp.asgS_ap]
        show (den (mdOf T n) nearC ⟨tEnv "join" (.list (l.map rcD)) (.list (k.map rcD)) (.tuple [.tuple (ps.map prD)]) (a ++ pre.map (tjr ps p)) (.dat (rowD p.1)) (.dat (.int (code p.2))) (.dat (.int 0)) (.dat (rowD q.1)) (.dat (.int (code q.2))) x10 x11, m⟩).bind _ = _
        rw [e1]
        rfl
      · simp [E, tEnv, rcD, tjr, pairsT, Function.comp_def] at e2
        simp [E, tEnv, hz1, e2, hz, hz2, e4, hlim, rcD, tjr, pairsT, Function.comp_def]) ⟨E a (.dat (rowD p.1)) (.dat (.int (code p.2))) (.dat (.int 0)) x8 x9 x10 x11, m⟩ ⟨x8, x9, x10, x11, by simp⟩
  obtain ⟨s', e, x5, x6, x7, x8, x9, x10, x11, rfl⟩ := fl_pre (tg := .tp [5, 6]) (body := denSs (mdOf T n) wOut) rcD (fun pre s => ∃ x5 x6 x7 x8 x9 x10 x11, s = ⟨E (pre.flatMap fun p => k.map (tjr ps p)) x5 x6 x7 x8 x9 x10 x11, m⟩) l (fun pre p post hx s hs => by
    obtain ⟨x5, x6, x7, x8, x9, x10, x11, rfl⟩ := hs
    have hp : p ∈ l := by rw [hx]; simp
    have hfl : ∀ pre : List Rt, (pre.flatMap fun p => k.map (tjr ps p)).length = pre.length * k.length := fun pre => by
      induction pre with
      | nil => simp
      | cons p l ih => simp [List.flatMap_cons, ih, Nat.succ_mul, Nat.add_comm]
    have hlen : (pre.flatMap fun p => k.map (tjr ps p)).length + k.length ≤ l.length * k.length := by
      have : pre.length + 1 ≤ l.length := by rw [hx]; simp
      have := Nat.mul_le_mul_right k.length this
      rw [Nat.add_mul, Nat.one_mul] at this
      rw [hfl]
      exact this
    obtain ⟨s1, f1, y8, y9, y10, y11, rfl⟩ := hin p hp (pre.flatMap fun p => k.map (tjr ps p)) x8 x9 x10 x11 hlen
    refine ⟨E (pre.flatMap fun p => k.map (tjr ps p)) (.dat (rowD p.1)) (.dat (.int (code p.2))) x7 x8 x9 x10 x11, ⟨E ((pre ++ [p]).flatMap fun p => k.map (tjr ps p)) (.dat (rowD p.1)) (.dat (.int (code p.2))) (.dat (.int 0)) y8 y9 y10 y11, m⟩, rfl, (ss_nx (s' := ⟨E (pre.flatMap fun p => k.map (tjr ps p)) (.dat (rowD p.1)) (.dat (.int (code p.2))) (.dat (.int 0)) x8 x9 x10 x11, m⟩) ?_).trans ((ss_nx (lop_run (seq_var rfl) f1)).trans (ss_nx ?_)), _, _, _, _, _, _, _, rfl⟩
    · simp [E, tEnv]
    · simp [E, tEnv]) ⟨E [] .un .un .un .un .un .un .un, m⟩ ⟨.un, .un, .un, .un, .un, .un, .un, rfl⟩
  refine run_ret (d := d__law_two) (args := [.dat (.str "join"), .dat (.list (l.map rcD)), .dat (.list (k.map rcD)), .dat (.tuple [.tuple (ps.map prD)])]) (m := m) rfl rfl ((ss_nx (s' := ⟨[.dat (.str "join"), .dat (.list (l.map rcD)), .dat (.list (k.map rcD)), .dat (.tuple [.tuple (ps.map prD)]), .un, .un, .un, .un, .un, .un, .un, .un, .un, .un, .un, .un], m⟩) ?_).trans ((ss_nx (s' := ⟨E [] .un .un .un .un .un .un .un, m⟩) ?_).trans ((ss_nx (lop_run (seq_var rfl) e)).trans (ss_ret (s' := ⟨(E (l.flatMap fun p => k.map (tjr ps p)) x5 x6 x7 x8 x9 x10 x11).set 4 .un, m⟩) ?_))))
  · simp [d__law_two]
  · simp [E, tEnv]
  · simp [E, tEnv]
@[simp] theorem six7 : HT.sIx 3 0 (some 3) = 3 := by decide +kernel
@[simp] theorem six8 : HT.sIx 4 0 (some 3) = 3 := by decide +kernel
theorem lrows_ok (ts : List Tab) (ht : TabsOk ts) (s : Sn) : ∀ (n : Nat) (m : List Cell), s.deep + 5 ≤ n → s.ok (ts.map Tab.w) → s.many ts ≤ 1000000 → s.prs → (mdOf T n).fns "_law_rows" [.dat s.d, .dat (tabsD ts)] m = .ok (.fr ((s.told ts).map rcD)) ⟨[], m⟩ := by
  have fin : ∀ (n : Nat) (m : List Cell) (e0 e1 e2 e5 e6 e7 : Sl) (l : List Rt), cLoop (.nm 4) (denT (mdOf T n) (.cmp .gt (.sub (.var 4) (.kon (.int 1))) (.kon (.int 0)))) (den (mdOf T n) (.var 4)) [4] (l.map rcD) [] ⟨[e0, e1, e2, .dat (.list (l.map rcD)), .un, e5, e6, e7], m⟩ = .ok ((nf l).map rcD) ⟨[e0, e1, e2, .dat (.list (l.map rcD)), .un, e5, e6, e7], m⟩ := by
    intro n m e0 e1 e2 e5 e6 e7 l
    have e := cl_filt (tg := .nm 4) (t := denT (mdOf T n) (.cmp .gt (.sub (.var 4) (.kon (.int 1))) (.kon (.int 0)))) (m := den (mdOf T n) (.var 4)) (vs := [4]) rcD (fun p => p.2 != some false) rcD [e0, e1, e2, .dat (.list (l.map rcD)), .un, e5, e6, e7] m l (fun p hp => by
      refine ⟨_, [e0, e1, e2, .dat (.list (l.map rcD)), .dat (rcD p), e5, e6, e7], rfl, ?_, fun _ => rfl, fun _ => ⟨.dat (rcD p), [e0, e1, e2, .dat (.list (l.map rcD)), .dat (rcD p), e5, e6, e7], ?_, rfl, rfl⟩⟩
      · have := code_pos p.2
        simp [rcD, this]
      · simp) []
    rw [List.nil_append] at e
    exact e
  induction s with
  | rows t =>
    intro n m hn ho hm _
    obtain ⟨n, rfl⟩ : ∃ j, n = j + 1 := ⟨n - 1, by omega⟩
    rw [fns__law_rows]
    have ho' : t < ts.length := by simpa using (show t < (ts.map Tab.w).length from ho)
    have h1 : ts[t]? = some ts[t] := List.getElem?_eq_getElem ho'
    have h2 : (t : Int) < ts.length := by omega
    have e := cl_map (tg := .nm 5) (m := den (mdOf T n) (.lst (.cons (.var 5) (.cons (.kon (.int 2)) .nil)))) (vs := [5]) rowD (fun r => rcD (r, some true)) [.dat (Sn.rows t).d, .dat (tabsD ts), .dat (.str "rows"), .un, .un, .un, .un, .un] m ts[t].rows (fun r hr => by
      refine ⟨_, .fr [rowD r, .int 2], [.dat (Sn.rows t).d, .dat (tabsD ts), .dat (.str "rows"), .un, .un, .dat (rowD r), .un, .un], rfl, ?_, rfl, rfl⟩
      simp) []
    have h3 : ts[t].rows.length ≤ 1000 := by have := (ht _ (List.getElem_mem ho')).few; omega
    simp [Sn.d, tabsD] at e
    simp [d__law_rows, Sn.d, tabsD, h1, h2, Tab.d, tabD, h3, e, Sn.told, Function.comp_def]
  | keep s c ih =>
    intro n m hn ho hm hp
    have hd : (Sn.keep s c).deep = max s.deep c.deep + 1 := rfl
    rw [hd] at hn
    obtain ⟨n, rfl⟩ : ∃ j, n = j + 1 := ⟨n - 1, by omega⟩
    rw [fns__law_rows]
    have e1 := ih n m (by omega) ho.1 hm hp
    have hl : Sp.Lim (s.told ts).length := Nat.le_trans (told_many ts s) hm
    have e := cl_map (tg := .tp [5, 6]) (m := den (mdOf T n) (.lst (.cons (.var 5) (.cons (.bln .min (.cons (.var 6) (.cons (.cal "_law_truth" (.cons (.sub (.var 0) (.kon (.int 2))) (.cons (.var 5) .nil))) .nil))) .nil)))) (vs := [5, 6]) rcD (fun p => rcD (p.1, oAnd p.2 (c.tv p.1))) [.dat (Sn.keep s c).d, .dat (tabsD ts), .dat (.str "keep"), .dat (.list ((s.told ts).map rcD)), .un, .un, .un, .un] m (s.told ts) (fun p hp => by
      obtain ⟨k, rfl⟩ : ∃ j, n = j + 3 := ⟨n - 3, by omega⟩
      have e2 := ltruth_ok (T := T) p.1 c k m (by omega) (by rw [(told_len ts ht s ho.1 p hp).1]; exact ho.2)
      refine ⟨_, .fr [rowD p.1, .int (code (oAnd p.2 (c.tv p.1)))], [.dat (Sn.keep s c).d, .dat (tabsD ts), .dat (.str "keep"), .dat (.list ((s.told ts).map rcD)), .un, .dat (rowD p.1), .dat (.int (code p.2)), .un], rfl, ?_, rfl, rfl⟩
      simp [Sn.d, rowD, e2, code_and]) []
    have f := fin n m (.dat (Sn.keep s c).d) (.dat (tabsD ts)) (.dat (.str "keep")) .un .un .un ((s.told ts).map fun p => (p.1, oAnd p.2 (c.tv p.1))) 
    simp [Sn.d, Function.comp_def] at e f
    simp [d__law_rows, Sn.d, e1, hl, e, f, Sn.told, keepR]
  | pick s cs ih =>
    intro n m hn ho hm hp
    have hd : (Sn.pick s cs).deep = s.deep + 1 := rfl
    rw [hd] at hn
    obtain ⟨n, rfl⟩ : ∃ j, n = j + 1 := ⟨n - 1, by omega⟩
    rw [fns__law_rows]
    have e1 := ih n m (by omega) ho.1 hm hp
    have hl : Sp.Lim (s.told ts).length := Nat.le_trans (told_many ts s) hm
    have hcs := ho.2.2.1
    have e := cl_map (tg := .tp [5, 6]) (m := den (mdOf T n) (.lst (.cons (.bl1 .tuple (.com (.nm 7) (.seq (.sub (.var 0) (.kon (.int 2)))) .nil (.sub (.var 5) (.var 7)) [("_law_k", 7)])) (.cons (.var 6) .nil)))) (vs := [5, 6]) rcD (fun p => rcD (pickRow cs p.1, p.2)) [.dat (Sn.pick s cs).d, .dat (tabsD ts), .dat (.str "pick"), .dat (.list ((s.told ts).map rcD)), .un, .un, .un, .un] m (s.told ts) (fun p hp => by
      have hw := (told_len ts ht s ho.1 p hp).1
      have e1 := cl_map (tg := .nm 7) (m := den (mdOf T n) (.sub (.var 5) (.var 7))) (vs := [7]) natD (fun i => (at0 p.1 i).d) [.dat (Sn.pick s cs).d, .dat (tabsD ts), .dat (.str "pick"), .dat (.list ((s.told ts).map rcD)), .un, .dat (rowD p.1), .dat (.int (code p.2)), .un] m cs (fun i hi => by
        have h1 : i < p.1.length := by rw [hw]; exact ho.2.2.2 i hi
        have h2 : (i : Int) < p.1.length := by omega
        have h3 : p.1[i]? = some p.1[i] := List.getElem?_eq_getElem h1
        refine ⟨_, .dat (at0 p.1 i).d, [.dat (Sn.pick s cs).d, .dat (tabsD ts), .dat (.str "pick"), .dat (.list ((s.told ts).map rcD)), .un, .dat (rowD p.1), .dat (.int (code p.2)), .dat (natD i)], rfl, ?_, rfl, rfl⟩
        simp [natD, rowD, h2, h3, at0, List.getD]) []
      refine ⟨_, .fr [rowD (pickRow cs p.1), .int (code p.2)], [.dat (Sn.pick s cs).d, .dat (tabsD ts), .dat (.str "pick"), .dat (.list ((s.told ts).map rcD)), .un, .dat (rowD p.1), .dat (.int (code p.2)), .un], rfl, ?_, rfl, rfl⟩
      have a1 : cs.length ≤ 1000 := by omega
      simp [Sn.d, rowD] at e1
      simp [Sn.d, e1, a1, rowD, pickRow, at0, Function.comp_def]) []
    have f := fin n m (.dat (Sn.pick s cs).d) (.dat (tabsD ts)) (.dat (.str "pick")) .un .un .un ((s.told ts).map fun p => (pickRow cs p.1, p.2)) 
    have hnf : nf ((s.told ts).map fun p => (pickRow cs p.1, p.2)) = (s.told ts).map fun p => (pickRow cs p.1, p.2) := by
      apply List.filter_eq_self.mpr
      intro q hq
      obtain ⟨p, hp, rfl⟩ := List.mem_map.mp hq
      simpa using (told_len ts ht s ho.1 p hp).2.2
    rw [hnf] at f
    simp [Sn.d, Function.comp_def] at e f
    simp [d__law_rows, Sn.d, e1, hl, e, f, Sn.told, pickR, Function.comp_def]
  | join a b ps iha ihb =>
    intro n m hn ho hm hp
    have hd : (Sn.join a b ps).deep = max a.deep b.deep + 1 := rfl
    rw [hd] at hn
    obtain ⟨n, rfl⟩ : ∃ j, n = j + 1 := ⟨n - 1, by omega⟩
    rw [fns__law_rows]
    simp only [Sn.many] at hm
    have e1 := iha n m (by omega) ho.1 (by omega) hp.1
    have e2 := ihb n m (by omega) ho.2.1 (by omega) hp.2.1
    have hl : Sp.Lim ((a.told ts).length * (b.told ts).length) := Nat.le_trans (Nat.mul_le_mul (told_many ts a) (told_many ts b)) (by omega)
    have e3 := two_join (T := T) n (by omega) m (a.told ts) (b.told ts) hl ps hp.2.2 (a.wid (ts.map Tab.w)) (b.wid (ts.map Tab.w)) (fun p hp => (told_len ts ht a ho.1 p hp).1) (fun p hp => (told_len ts ht b ho.2.1 p hp).1) ho.2.2.1 ho.2.2.2
    have hfl : ((a.told ts).flatMap fun p => (b.told ts).map (tjr ps p)).length = (a.told ts).length * (b.told ts).length := by
      generalize a.told ts = l
      induction l with
      | nil => simp
      | cons p l ih => simp [List.flatMap_cons, ih, Nat.succ_mul, Nat.add_comm]
    have f := fin n m (.dat (Sn.join a b ps).d) (.dat (tabsD ts)) (.dat (.str "join")) .un .un .un ((a.told ts).flatMap fun p => (b.told ts).map (tjr ps p)) 
    simp [Sn.d] at f
    rw [← hfl] at hl
    simp [Sn.d] at e3 hl
    simp [d__law_rows, Sn.d, e1, e2, e3, hl, f, Sn.told, joinR]
    rfl
  | both a b iha ihb =>
    intro n m hn ho hm hp
    have hd : (Sn.both a b).deep = max a.deep b.deep + 1 := rfl
    rw [hd] at hn
    obtain ⟨n, rfl⟩ : ∃ j, n = j + 1 := ⟨n - 1, by omega⟩
    rw [fns__law_rows]
    simp only [Sn.many] at hm
    have e1 := iha n m (by omega) ho.1 (by omega) hp.1
    have e2 := ihb n m (by omega) ho.2.1 (by omega) hp.2
    have m1 := told_many ts a
    have m2 := told_many ts b
    have hl : Sp.Lim ((a.told ts).length + (b.told ts).length) := by show _ ≤ 1000000; omega
    have e3 := two_both (T := T) n (by omega) m (a.told ts) (b.told ts) hl
    have hnf : nf (a.told ts ++ b.told ts) = a.told ts ++ b.told ts := by
      apply List.filter_eq_self.mpr
      intro p hp
      rcases List.mem_append.mp hp with z | z
      · simpa using (told_len ts ht a ho.1 p z).2.2
      · simpa using (told_len ts ht b ho.2.1 p z).2.2
    have f := fin n m (.dat (Sn.both a b).d) (.dat (tabsD ts)) (.dat (.str "both")) .un .un .un (a.told ts ++ b.told ts) 
    rw [hnf] at f
    simp [Sn.d] at f e3
    simp [d__law_rows, Sn.d, e1, e2, e3, hl, f, Sn.told]
  | without a b iha ihb =>
    intro n m hn ho hm hp
    have hd : (Sn.without a b).deep = max a.deep b.deep + 1 := rfl
    rw [hd] at hn
    obtain ⟨n, rfl⟩ : ∃ j, n = j + 1 := ⟨n - 1, by omega⟩
    rw [fns__law_rows]
    simp only [Sn.many] at hm
    have e1 := iha n m (by omega) ho.1 (by omega) hp.1
    have e2 := ihb n m (by omega) ho.2.1 (by omega) hp.2
    have m1 := told_many ts a
    have hl : Sp.Lim (a.told ts).length := by show _ ≤ 1000000; omega
    have hwid : a.wid (ts.map Tab.w) ≤ 8 := by
      exact wid8 ts ht a ho.1
    have e3 := two_without (T := T) n (by omega) m (a.told ts) (b.told ts) hl (a.wid (ts.map Tab.w)) hwid (fun p hp => (told_len ts ht a ho.1 p hp).1)
    have f := fin n m (.dat (Sn.without a b).d) (.dat (tabsD ts)) (.dat (.str "without")) .un .un .un ((a.told ts).map fun p => (p.1, oAnd p.2 (oNot (amongT p.1 (b.told ts)))))
    simp [Sn.d] at f e3
    simp [d__law_rows, Sn.d, e1, e2, e3, hl, f, Sn.told, withoutR]
end
end Gq
end

section
namespace Gq
open PySem PySem.Spec L2
variable {T : Tb}
inductive Fine : Nat → D → Prop
  | none {k : Nat} : Fine k .none
  | bool {k : Nat} (b : Bool) : Fine k (.bool b)
  | int {k : Nat} (i : Int) : Fine k (.int i)
  | str {k : Nat} (x : Str) : Fine k (.str x)
  | list {k : Nat} {ds : List D} : (∀ d ∈ ds, Fine k d) → ds.length ≤ 1000000 → Fine (k+1) (.list ds)
  | tuple {k : Nat} {ds : List D} : (∀ d ∈ ds, Fine k d) → ds.length ≤ 1000000 → Fine (k+1) (.tuple ds)
theorem Fine.dep {k : Nat} {d : D} (h : Fine k d) : d.depth ≤ k := by
  have all : ∀ (ds : List D) (k : Nat), (∀ d ∈ ds, d.depth ≤ k) → PyData.depthAll ds ≤ k := fun ds k hh => by
    induction ds with
    | nil => simp
    | cons d ds ih =>
      simp only [depA_c]
      have h1 := hh d List.mem_cons_self
      have h2 := ih fun e he => hh e (List.mem_cons_of_mem _ he)
      omega
  induction h with
  | none => simp
  | bool => simp
  | int => simp
  | str => simp
  | list _ _ ih => simp only [dep_l]; have := all _ _ ih; omega
  | tuple _ _ ih => simp only [dep_t]; have := all _ _ ih; omega
theorem Fine.eqv {k : Nat} {d : D} (h : Fine k d) : PyData.eqv d d = true := by
  have all : ∀ (ds : List D), (∀ d ∈ ds, PyData.eqv d d = true) → PyData.eqvAll ds ds = true := fun ds hh => by
    induction ds with
    | nil => simp
    | cons d ds ih =>
      simp only [eqvA_cc]
      rw [hh d List.mem_cons_self, ih fun e he => hh e (List.mem_cons_of_mem _ he)]
      rfl
  induction h with
  | none => simp
  | bool => simp
  | int => simp
  | str => simp
  | list _ _ ih => simp only [eqv_ll]; exact all _ ih
  | tuple _ _ ih => simp only [eqv_tt]; exact all _ ih
theorem Fine.up {k k' : Nat} {d : D} (h : Fine k d) (hk : k ≤ k') : Fine k' d := by
  induction h generalizing k' with
  | none => exact .none
  | bool b => exact .bool b
  | int i => exact .int i
  | str x => exact .str x
  | list _ hl ih =>
    obtain ⟨k', rfl⟩ : ∃ j, k' = j + 1 := ⟨k' - 1, by omega⟩
    exact .list (fun d hd => ih d hd (by omega)) hl
  | tuple _ hl ih =>
    obtain ⟨k', rfl⟩ : ∃ j, k' = j + 1 := ⟨k' - 1, by omega⟩
    exact .tuple (fun d hd => ih d hd (by omega)) hl
theorem cEq_self {k : Nat} {d : D} (h : Fine k d) (hk : k ≤ 64) (neg : Bool) : cEqB neg d d = some (.dat (.bool (!neg))) := by
  have h1 := h.dep
  rw [Sp.cEqB_eq, if_pos (by omega), h.eqv]
  cases neg <;> rfl
theorem rngOk_lim {n : Nat} (h : n ≤ 1000000) : Sp.RngOk (n : Int) := by
  unfold Sp.RngOk
  omega
section
variable [CLike T]
def likeBody : SoL := (.cons (.iff (.not (.cal "_law_like" (.cons (.sub (.var 0) (.var 2)) (.cons (.sub (.var 1) (.var 2)) .nil)))) (.cons (.ret (.kon (.bool false))) .nil) .nil) .nil)
theorem like_loop (n : Nat) (m : List Cell) (ds : List D) (s0 s1 : Sl) (h0 : ∀ x, peek 0 ⟨[s0, s1, x], m⟩ = .ok (.list ds) ⟨[s0, s1, x], m⟩ ∨ peek 0 ⟨[s0, s1, x], m⟩ = .ok (.tuple ds) ⟨[s0, s1, x], m⟩) (h1 : s1 = .dat (.list ds) ∨ s1 = .dat (.tuple ds)) (hl : ∀ d ∈ ds, (mdOf T n).fns "_law_like" [.dat d, .dat d] m = .ok (.dat (.bool true)) ⟨[], m⟩) :
    ∃ x, fLoop (.nm 2) (denSs (mdOf T n) likeBody) (rgD 0 ds.length) ⟨[s0, s1, .un], m⟩ = .ok .nx ⟨[s0, s1, x], m⟩ := by
  obtain ⟨s', e, x, rfl⟩ := fl_inv (tg := .nm 2) (body := denSs (mdOf T n) likeBody) (ds := rgD 0 ds.length) (fun s => ∃ x, s = ⟨[s0, s1, x], m⟩) (fun d hd s hs => by
    obtain ⟨x, rfl⟩ := hs
    rw [rgD_map, List.mem_map] at hd
    obtain ⟨i, hi, rfl⟩ := hd
    have hi' : i < ds.length := by simpa using hi
    have e1 := hl _ (List.getElem_mem hi')
    have e2 : ds[i]? = some ds[i] := List.getElem?_eq_getElem hi'
    have e3 : (i : Int) < ds.length := by omega
    refine ⟨_, _, rfl, ?_, .dat (.int (0 + (i : Nat))), rfl⟩
    have h0' := h0 (.dat (.int (0 + (i : Nat))))
    show denSs (mdOf T n) likeBody ⟨[s0, s1, .dat (.int (0 + (i : Nat)))], m⟩ = _
    rw [Int.zero_add] at h0' ⊢
    rcases h0' with h0' | h0' <;> rcases h1 with rfl | rfl <;> simp only [Sp.peek_ap, List.getElem?_cons_zero] at h0' <;> simp [likeBody, h0', e1, e2, e3]) ⟨[s0, s1, .un], m⟩ ⟨.un, rfl⟩
  exact ⟨x, e⟩
theorem like_refl {k : Nat} {d : D} (h : Fine k d) : ∀ (n : Nat) (m : List Cell), k + 1 ≤ n → (mdOf T n).fns "_law_like" [.dat d, .dat d] m = .ok (.dat (.bool true)) ⟨[], m⟩ := by
  induction h with
  | none =>
    intro n m hn
    obtain ⟨n, rfl⟩ : ∃ j, n = j + 1 := ⟨n - 1, by omega⟩
    rw [fns__law_like]
    simp [d__law_like]
  | bool b =>
    intro n m hn
    obtain ⟨n, rfl⟩ : ∃ j, n = j + 1 := ⟨n - 1, by omega⟩
    rw [fns__law_like]
    simp [d__law_like]
  | int b =>
    intro n m hn
    obtain ⟨n, rfl⟩ : ∃ j, n = j + 1 := ⟨n - 1, by omega⟩
    rw [fns__law_like]
    simp [d__law_like]
  | str b =>
    intro n m hn
    obtain ⟨n, rfl⟩ : ∃ j, n = j + 1 := ⟨n - 1, by omega⟩
    rw [fns__law_like]
    simp [d__law_like]
  | @list k ds hh hl ih =>
    intro n m hn
    obtain ⟨n, rfl⟩ : ∃ j, n = j + 1 := ⟨n - 1, by omega⟩
    obtain ⟨x, e⟩ := like_loop (T := T) n m ds (.dat (.list ds)) (.dat (.list ds)) (fun x => .inl rfl) (.inl rfl) (fun d hd => ih d hd n m (by omega))
    have hr := rngOk_lim hl
    simp [likeBody] at e
    rw [fns__law_like]
    simp [d__law_like, hr, e]
  | @tuple k ds hh hl ih =>
    intro n m hn
    obtain ⟨n, rfl⟩ : ∃ j, n = j + 1 := ⟨n - 1, by omega⟩
    obtain ⟨x, e⟩ := like_loop (T := T) n m ds (.dat (.tuple ds)) (.dat (.tuple ds)) (fun x => .inr rfl) (.inr rfl) (fun d hd => ih d hd n m (by omega))
    have hr := rngOk_lim hl
    simp [likeBody] at e
    rw [fns__law_like]
    simp [d__law_like, hr, e]
theorem like_hnd {k : Nat} {ds : List D} (hh : ∀ d ∈ ds, Fine k d) (hl : ds.length ≤ 1000000) (n : Nat) (hn : k + 2 ≤ n) (m : List Cell) (h : Nat) (hm : m[h]? = some (.lst ds)) : (mdOf T n).fns "_law_like" [.hnd h, .dat (.list ds)] m = .ok (.dat (.bool true)) ⟨[], m⟩ := by
  obtain ⟨n, rfl⟩ : ∃ j, n = j + 1 := ⟨n - 1, by omega⟩
  obtain ⟨x, e⟩ := like_loop (T := T) n m ds (.hnd h) (.dat (.list ds)) (fun x => by left; simp [hm]) (.inl rfl) (fun d hd => like_refl (T := T) (hh d hd) n m (by omega))
  have hr := rngOk_lim hl
  simp [likeBody] at e
  rw [fns__law_like]
  simp [d__law_like, hr, e, hm]
end
theorem Cl.fine (c : Cl) : Fine 1 c.d := by
  cases c with
  | num i => exact .int i
  | gap i =>
    refine .tuple (k := 0) (fun d hd => ?_) (by simp)
    rcases List.mem_cons.mp hd with rfl | hd
    · exact .str _
    · rw [List.mem_singleton.mp hd]; exact .int i
theorem row_fine (r : List Cl) (h : r.length ≤ 1000) : Fine 2 (rowD r) := by
  refine .tuple (fun d hd => ?_) (by simp; omega)
  obtain ⟨c, _, rfl⟩ := List.mem_map.mp hd
  exact c.fine
theorem pair_fine {k : Nat} {a b : D} (ha : Fine k a) (hb : Fine k b) : Fine (k+1) (.tuple [a, b]) := by
  refine .tuple (fun d hd => ?_) (by simp)
  rcases List.mem_cons.mp hd with rfl | hd
  · exact ha
  · rw [List.mem_singleton.mp hd]; exact hb
theorem rm_fine (p : Rt) (h : p.1.length ≤ 1000) : Fine 3 (rmD p) := pair_fine (row_fine p.1 h) (.str _)
theorem tab_fine (t : Tab) (h : t.ok) : Fine 4 t.d := by
  refine pair_fine (.int _) (.list (fun d hd => ?_) (by have := h.few; simp; omega))
  obtain ⟨r, hr, rfl⟩ := List.mem_map.mp hd
  exact row_fine r (by have := h.w4; have := (h.row r hr).1; omega)
theorem tabs_fine (ts : List Tab) (h : TabsOk ts) (h3 : ts.length ≤ 1000) : Fine 5 (tabsD ts) := by
  refine .list (fun d hd => ?_) (by simp; omega)
  obtain ⟨t, ht, rfl⟩ := List.mem_map.mp hd
  exact tab_fine t (h t ht)
end Gq
end

section
namespace Gq
open PySem PySem.Spec L2
variable {T : Tb}
section
variable [CDice T]
theorem law_start (n : Nat) (hn : 1 ≤ n) (ns : List Int) (E : List Sl) : ∃ c, Dc c ∧ denS (mdOf T n) (.asg 1 (.han (.cal "_law_dice" (.cons (.var 0) .nil)))) ⟨.dat (.list (ns.map .int)) :: .un :: E, []⟩ = .ok .nx ⟨.dat (.list (ns.map .int)) :: .hnd 0 :: E, [c]⟩ := by
  obtain ⟨n, rfl⟩ : ∃ j, n = j + 1 := ⟨n - 1, by omega⟩
  obtain ⟨q, e⟩ := dice_ok (T := T) n ns []
  refine ⟨.lst [.list (ns.map .int), .int 0, .int q, .int 0], ⟨ns, 0, q, 0, rfl, by omega⟩, ?_⟩
  simp [e]
end
theorem law_end {p : Pg} {n : Nat} {t : Dt} {ns : List Int} {s : S} (hp : t.d.np = 1) (h : denSs (mdOf p.tb n) t.d.body ⟨.dat (.list (ns.map .int)) :: List.replicate (t.d.ns - 1) .un, []⟩ = .ok (.ret (.dat (.bool true))) s) : (lawRun p n t ns).isTrue = true := by
  have e := run_ret (md := mdOf p.tb n) (d := t.d) (args := [.dat (.list (ns.map .int))]) (m := []) (e := .dat (.list (ns.map .int)) :: List.replicate (t.d.ns - 1) .un) (by rw [hp]; rfl) (by rw [hp]; rfl) h
  unfold lawRun
  rw [e]
  rfl
theorem rgD_lim (k : Nat) : rgD 0 (k : Int) = (List.range k).map natD := by
  rw [rgD_map]
  have : ((k : Int) - 0).toNat = k := by omega
  rw [this]
  apply List.map_congr_left
  intro i _
  simp [natD]
theorem lop_rng {md : Md} {tg : Tg} {k : Int} {body : SoL} {s s2 : S} (hk : Sp.RngOk k) (h2 : fLoop tg (denSs md body) (rgD 0 k) s = .ok .nx s2) : denS md (.lop tg (.rn1 (.kon (.int k))) body) s = .ok .nx s2 := by
  refine lop_run (ds := rgD 0 k) (s' := s) ?_ h2
  simp [hk]
end Gq
end

section
namespace Gq
open PySem PySem.Spec L2
variable {T : Tb}
theorem oAnd_idem (a : Tv) : oAnd a a = a := by
  rcases a with _ | a <;> try cases a
  all_goals rfl
theorem false_oAnd (a : Tv) : oAnd (some false) a = some false := by
  rcases a with _ | a <;> try cases a
  all_goals rfl
theorem oOr_comm (a b : Tv) : oOr a b = oOr b a := by
  rcases a with _ | a <;> rcases b with _ | b <;> try cases a
  all_goals try cases b
  all_goals rfl
theorem oOr_assoc (a b c : Tv) : oOr (oOr a b) c = oOr a (oOr b c) := by
  rcases a with _ | a <;> rcases b with _ | b <;> rcases c with _ | c <;> try cases a
  all_goals try cases b
  all_goals try cases c
  all_goals rfl
theorem false_oOr (a : Tv) : oOr (some false) a = a := by
  rcases a with _ | a <;> try cases a
  all_goals rfl
theorem oNot_or (a b : Tv) : oNot (oOr a b) = oAnd (oNot a) (oNot b) := by
  rcases a with _ | a <;> rcases b with _ | b <;> try cases a
  all_goals try cases b
  all_goals rfl
theorem oNot_and (a b : Tv) : oNot (oAnd a b) = oOr (oNot a) (oNot b) := by
  rcases a with _ | a <;> rcases b with _ | b <;> try cases a
  all_goals try cases b
  all_goals rfl
theorem oNot_not (a : Tv) : oNot (oNot a) = a := by
  rcases a with _ | a <;> try cases a
  all_goals rfl
theorem foldl_or {β : Type} (f : β → Tv) : ∀ (l : List β) (t : Tv), l.foldl (fun t p => oOr t (f p)) t = oOr t (l.foldl (fun t p => oOr t (f p)) (some false))
  | [], t => by rw [List.foldl_nil, List.foldl_nil, oOr_comm, false_oOr]
  | x :: l, t => by
    rw [List.foldl_cons, List.foldl_cons, foldl_or f l, foldl_or f l (oOr (some false) (f x)), false_oOr, oOr_assoc]
theorem among_app (r : List Cl) (k k' : List Rt) : amongT r (k ++ k') = oOr (amongT r k) (amongT r k') := by
  unfold amongT
  rw [List.foldl_append, foldl_or]
theorem nf_map_nf (g : Rt → Rt) (hg : ∀ p : Rt, p.2 = some false → (g p).2 = some false) : ∀ l : List Rt, nf ((nf l).map g) = nf (l.map g)
  | [] => rfl
  | p :: l => by
    have ih := nf_map_nf g hg l
    by_cases hp : p.2 = some false
    · have h1 : nf (p :: l) = nf l := by simp [nf, hp]
      have h2 : nf ((p :: l).map g) = nf (l.map g) := by simp [nf, hg p hp]
      rw [h1, h2, ih]
    · have h1 : nf (p :: l) = p :: nf l := by simp [nf, hp]
      rw [h1, List.map_cons, List.map_cons]
      unfold nf at *
      rw [List.filter_cons, List.filter_cons, ih]
theorem nf_app (a b : List Rt) : nf (a ++ b) = nf a ++ nf b := List.filter_append a b
theorem keep_keep (l : List Rt) (c e : Cd) : keepR (keepR l c) e = keepR l (.and c e) := by
  unfold keepR
  rw [nf_map_nf _ (fun p hp => by simp [hp, false_oAnd]), List.map_map]
  congr 1
  apply List.map_congr_left
  intro p _
  simp [Cd.tv, oAnd_assoc]
theorem keep_app (l k : List Rt) (c : Cd) : keepR (l ++ k) c = keepR l c ++ keepR k c := by
  unfold keepR
  rw [List.map_append, nf_app]
theorem pick_pick (l : List Rt) (two pl : List Nat) (h : ∀ k ∈ pl, k < two.length) : pickR (pickR l two) pl = pickR l (pl.map fun k => two.getD k 0) := by
  unfold pickR
  rw [List.map_map]
  apply List.map_congr_left
  intro p _
  simp only [Function.comp_apply, pickRow, List.map_map]
  congr 1
  apply List.map_congr_left
  intro k hk
  have := h k hk
  simp [List.getD, List.getElem?_eq_getElem this]
theorem join_keep (l k : List Rt) (i j w v : Nat) (hl : ∀ p ∈ l, p.1.length = w) (hk : ∀ p ∈ k, p.1.length = v) (hi : i < w) (hj : j < v) : joinR l k [(i, j)] = keepR (joinR l k []) (.is (.col i) (.col (w + j))) := by
  unfold joinR keepR
  rw [nf_map_nf _ (fun p hp => by simp [hp, false_oAnd])]
  congr 1
  rw [List.map_flatMap]
  have fm : ∀ (l' : List Rt) (f g : Rt → List Rt), (∀ p ∈ l', f p = g p) → l'.flatMap f = l'.flatMap g := fun l' f g h => by
    induction l' with
    | nil => rfl
    | cons a l' ih => rw [List.flatMap_cons, List.flatMap_cons, h a List.mem_cons_self, ih fun p hp => h p (List.mem_cons_of_mem _ hp)]
  apply fm
  intro p hp
  rw [List.map_map]
  apply List.map_congr_left
  intro q hq
  have h1 := hl p hp
  have h2 := hk q hq
  have a1 : p.1[i]? = some p.1[i] := List.getElem?_eq_getElem (by omega)
  have a2 : q.1[j]? = some q.1[j] := List.getElem?_eq_getElem (by omega)
  have a3 : (p.1 ++ q.1)[i]? = some p.1[i] := by rw [List.getElem?_append_left (by omega)]; exact a1
  have a4 : (p.1 ++ q.1)[w + j]? = some q.1[j] := by rw [List.getElem?_append_right (by omega), h1, show w + j - w = j by omega]; exact a2
  have a5 : (p.1 ++ q.1).getD i (.num 0) = p.1[i] := by rw [List.getD, a3]; rfl
  simp only [Function.comp_apply, pairsT, List.foldl_cons, List.foldl_nil, true_oAnd, oAnd_true, Cd.tv, Pt.val, a3, a4, at0, List.getD, a1, a2, Option.getD_some, Cl.same]
theorem without_without (l k : List Rt) : withoutR (withoutR l k) k = withoutR l k := by
  unfold withoutR
  rw [nf_map_nf _ (fun p hp => by simp [hp, false_oAnd]), List.map_map]
  congr 1
  apply List.map_congr_left
  intro p _
  simp [oAnd_assoc, oAnd_idem]
theorem without_keep (l k : List Rt) (c : Cd) : withoutR (keepR l c) k = keepR (withoutR l k) c := by
  unfold withoutR keepR
  rw [nf_map_nf _ (fun p hp => by simp [hp, false_oAnd]), nf_map_nf _ (fun p hp => by simp [hp, false_oAnd]), List.map_map, List.map_map]
  congr 1
  apply List.map_congr_left
  intro p _
  simp only [Function.comp_apply]
  rw [oAnd_assoc, oAnd_assoc, oAnd_comm (c.tv p.1)]
theorem without_both (l k k' : List Rt) : withoutR l (k ++ k') = withoutR (withoutR l k) k' := by
  unfold withoutR
  rw [nf_map_nf _ (fun p hp => by simp [hp, false_oAnd]), List.map_map]
  congr 1
  apply List.map_congr_left
  intro p _
  simp only [Function.comp_apply, among_app, oNot_or]
  rw [oAnd_assoc]
section
variable [CAny T]
theorem law_sized (ws : List Nat) (hws : ∀ w ∈ ws, 1 ≤ w ∧ w ≤ 4) (h0 : 1 ≤ ws.length) (h3 : ws.length ≤ 3) (safe : Bool) (deep n : Nat) (hn : 2 * deep + 10 ≤ n) (rest : List Cell) (c : Cell) (w : Nat) (w1 : 1 ≤ w) (w8 : w ≤ 8) (hc : Dc c) : ∃ (s : Sn) (c' : Cell), Dc c' ∧ AnyOk ws safe (2 * deep + 7) deep s ∧ s.wid ws = w ∧ (mdOf T n).fns "_law_sized" [.hnd 0, .dat (.int w), .dat (.int deep), .dat (.bool safe), .dat (.list (ws.map natD))] (c :: rest) = .ok (.dat s.d) ⟨[], c' :: rest⟩ := by
  obtain ⟨n, rfl⟩ : ∃ j, n = j + 1 := ⟨n - 1, by omega⟩
  obtain ⟨s, c2, d2, k2, e2⟩ := law_any (T := T) ws hws h0 h3 safe deep n rest c hc (by omega)
  rw [fns__law_sized]
  by_cases hw : s.wid ws = w
  · refine ⟨s, c2, d2, ⟨k2.ok, k2.w1, k2.w8, by have := k2.deep; omega, k2.lev, k2.safe, k2.prs⟩, hw, ?_⟩
    simp [d__law_sized, e2, hw]
  · have hw' : ¬ ((s.wid ws : Int) = w) := by omega
    obtain ⟨cs, c3, d3, l3, o3, e3⟩ := draw_cols (T := T) n (by omega) rest (s.wid ws) k2.w1 k2.w8 7 0 6 [.hnd 0, .dat (.int w), .dat (.int deep), .dat (.bool safe), .dat (.list (ws.map natD)), .dat s.d, .dat (.int (s.wid ws)), .un] (fun d => ⟨_, rfl, rfl, rfl, rfl⟩) (rgD 0 w) c2 d2
    have l4 : cs.length = w := by rw [l3]; simp
    have b1 : w ≤ 1000 := by omega
    refine ⟨.pick s cs, c3, d3, ⟨⟨k2.ok, by omega, by omega, o3⟩, show 1 ≤ cs.length by omega, show cs.length ≤ 8 by omega, ?_, k2.lev, k2.safe, k2.prs⟩, l4, ?_⟩
    · have : (Sn.pick s cs).deep = s.deep + 1 := rfl
      have := k2.deep
      omega
    · simp at e3
      have b2 : (w : Int) ≤ 1000 := by omega
      simp [d__law_sized, e2, hw', e3, b1, b2, l4, Sn.d]
end
end Gq
end

section
namespace Gq
open PySem PySem.Spec L2
variable {T : Tb}
def mTst : Co := (.cmp .gt (.cal "_law_things" (.cons (.var 4) .nil)) (.var 3))
def mBdy : SoL := (.cons (.asg 4 (.ite (.cmp .isin (.sub (.var 4) (.kon (.int 0))) (.tup (.cons (.kon (.str "not")) (.cons (.kon (.str "true")) (.cons (.kon (.str "and")) (.cons (.kon (.str "or")) .nil)))))) (.sub (.var 4) (.kon (.int 1))) (.tup (.cons (.kon (.str "less")) (.cons (.tup (.cons (.kon (.str "col")) (.cons (.bin .sub (.var 1) (.kon (.int 1))) .nil))) (.cons (.tup (.cons (.kon (.str "num")) (.cons (.kon (.int 2)) .nil))) .nil)))))) .nil)
def mEnv (w : Nat) (dp : Int) (mo : Nat) (x : Cd) : List Sl := [.hnd 0, .dat (.int w), .dat (.int dp), .dat (.int mo), .dat x.d]
def Cd.next (w : Nat) : Cd → Cd
  | .not x => x | .tru x => x | .and x _ => x | .or x _ => x | _ => .less (.col (w - 1)) (.num 2)
section
variable [CModest T] [WN T]
theorem mTst_ok (k : Nat) (w : Nat) (dp : Int) (mo : Nat) (x : Cd) (m : List Cell) (hk : x.deep ≤ k) : denT (mdOf T (k+1)) mTst ⟨mEnv w dp mo x, m⟩ = .ok (decide (mo < x.size)) ⟨mEnv w dp mo x, m⟩ := by
  have e := things_cd (T := T) x k m hk
  simp [mTst, mEnv, e]
theorem mBdy_ok (k : Nat) (w : Nat) (hw : 1 ≤ w) (dp : Int) (mo : Nat) (x : Cd) (m : List Cell) : denSs (mdOf T k) mBdy ⟨mEnv w dp mo x, m⟩ = .ok .nx ⟨mEnv w dp mo (x.next w), m⟩ := by
  have h1 : ((w - 1 : Nat) : Int) = (w : Int) - 1 := by omega
  cases x <;> simp [mBdy, mEnv, Cd.d, Cd.next, Pt.d, h1]
theorem mLoop (w : Nat) (hw : 1 ≤ w) (dp : Int) (mo : Nat) (hmo : 3 ≤ mo) (m : List Cell) (k : Nat) (hk1 : 1 ≤ k) : ∀ (d : Nat) (x : Cd) (N : Nat), x.deep ≤ d → d ≤ k → d + 2 ≤ N → x.ok w →
    ∃ x', Cd.ok w x' ∧ x'.size ≤ mo ∧ x'.deep ≤ max d 1 ∧ wLoop (denT (mdOf T (k+1)) mTst) (denSs (mdOf T (k+1)) mBdy) N ⟨mEnv w dp mo x, m⟩ = .ok .nx ⟨mEnv w dp mo x', m⟩ := by
  have stop : ∀ (x : Cd) (N : Nat), x.deep ≤ k → x.size ≤ mo → wLoop (denT (mdOf T (k+1)) mTst) (denSs (mdOf T (k+1)) mBdy) (N + 1) ⟨mEnv w dp mo x, m⟩ = .ok .nx ⟨mEnv w dp mo x, m⟩ := fun x N hx hs => by
    unfold wLoop
    rw [mTst_ok k w dp mo x m hx]
    have : ¬ (mo < x.size) := by omega
    simp [this]
  have go : ∀ (x : Cd) (N : Nat), x.deep ≤ k → mo < x.size → wLoop (denT (mdOf T (k+1)) mTst) (denSs (mdOf T (k+1)) mBdy) (N + 1) ⟨mEnv w dp mo x, m⟩ = wLoop (denT (mdOf T (k+1)) mTst) (denSs (mdOf T (k+1)) mBdy) N ⟨mEnv w dp mo (x.next w), m⟩ := fun x N hx hs => by
    conv => lhs; unfold wLoop
    rw [mTst_ok k w dp mo x m hx]
    show (if decide (mo < x.size) = true then _ else _) = _
    rw [if_pos (decide_eq_true hs), mBdy_ok (k+1) w hw dp mo x m]
    rfl
  have base : ∀ N : Nat, 1 ≤ N → ∃ x', Cd.ok w x' ∧ x'.size ≤ mo ∧ x'.deep ≤ 1 ∧ wLoop (denT (mdOf T (k+1)) mTst) (denSs (mdOf T (k+1)) mBdy) N ⟨mEnv w dp mo (.less (.col (w - 1)) (.num 2)), m⟩ = .ok .nx ⟨mEnv w dp mo x', m⟩ := fun N hN => by
    obtain ⟨N, rfl⟩ : ∃ j, N = j + 1 := ⟨N - 1, by omega⟩
    exact ⟨.less (.col (w - 1)) (.num 2), ⟨ok_col (by omega), by show (0:Int) ≤ 2 ∧ (2:Int) ≤ 99; omega⟩, by show 1 + 1 + 1 ≤ mo; omega, by show max 0 0 + 1 ≤ 1; omega, stop _ N (by show max 0 0 + 1 ≤ k; omega) (by show 1 + 1 + 1 ≤ mo; omega)⟩
  intro d
  induction d with
  | zero =>
    intro x N hx hd hN ho
    exfalso
    cases x <;> simp [Cd.deep] at hx
  | succ d ih =>
    intro x N hx hd hN ho
    obtain ⟨N, rfl⟩ : ∃ j, N = j + 1 := ⟨N - 1, by omega⟩
    by_cases hs : x.size ≤ mo
    · exact ⟨x, ho, hs, by omega, stop x N (by omega) hs⟩
    · have g := go x N (by omega) (by omega)
      cases x with
      | is a b => obtain ⟨x', h1, h2, h3, h4⟩ := base N (by omega); exact ⟨x', h1, h2, by omega, g.trans h4⟩
      | less a b => obtain ⟨x', h1, h2, h3, h4⟩ := base N (by omega); exact ⟨x', h1, h2, by omega, g.trans h4⟩
      | lacks a => obtain ⟨x', h1, h2, h3, h4⟩ := base N (by omega); exact ⟨x', h1, h2, by omega, g.trans h4⟩
      | not y =>
        have hd2 : (Cd.not y).deep = y.deep + 1 := rfl
        obtain ⟨x', h1, h2, h3, h4⟩ := ih y N (by omega) (by omega) (by omega) ho
        exact ⟨x', h1, h2, by omega, g.trans h4⟩
      | tru y =>
        have hd2 : (Cd.tru y).deep = y.deep + 1 := rfl
        obtain ⟨x', h1, h2, h3, h4⟩ := ih y N (by omega) (by omega) (by omega) ho
        exact ⟨x', h1, h2, by omega, g.trans h4⟩
      | and y z =>
        have hd2 : (Cd.and y z).deep = max y.deep z.deep + 1 := rfl
        obtain ⟨x', h1, h2, h3, h4⟩ := ih y N (by omega) (by omega) (by omega) ho.1
        exact ⟨x', h1, h2, by omega, g.trans h4⟩
      | or y z =>
        have hd2 : (Cd.or y z).deep = max y.deep z.deep + 1 := rfl
        obtain ⟨x', h1, h2, h3, h4⟩ := ih y N (by omega) (by omega) (by omega) ho.1
        exact ⟨x', h1, h2, by omega, g.trans h4⟩
theorem modest (w : Nat) (hw : 1 ≤ w) (hw8 : w ≤ 8) (deep mo n : Nat) (hmo : 3 ≤ mo) (hn : deep + 7 ≤ n) (hd : deep ≤ 100) (rest : List Cell) (c : Cell) (hc : Dc c) :
    ∃ x c', Dc c' ∧ Cd.ok w x ∧ x.deep ≤ deep + 4 ∧ x.size ≤ mo ∧ (mdOf T n).fns "_law_modest" [.hnd 0, .dat (.int w), .dat (.int deep), .dat (.int mo)] (c :: rest) = .ok (.dat x.d) ⟨[], c' :: rest⟩ := by
  obtain ⟨n, rfl⟩ : ∃ j, n = j + 2 := ⟨n - 2, by omega⟩
  obtain ⟨x, c1, d1, o1, q1, _, e1⟩ := cnd (T := T) w hw hw8 false deep (n + 1) (by omega) rest c hc
  obtain ⟨x', o2, s2, q2, e2⟩ := mLoop (T := T) w hw deep mo hmo (c1 :: rest) n (by omega) (deep + 4) x 100000 q1 (by omega) (by omega) o1
  refine ⟨x', c1, d1, o2, by omega, s2, ?_⟩
  rw [fns__law_modest]
  have e4 : denS (mdOf T (n + 1)) (.whl mTst mBdy) ⟨mEnv w deep mo x, c1 :: rest⟩ = .ok .nx ⟨mEnv w deep mo x', c1 :: rest⟩ := by
    rw [Sp.denS_whl, wn_eq]
    exact e2
  have e5 : denS (mdOf T (n + 1)) (.asg 4 (.cal "_law_condition" (.cons (.var 0) (.cons (.var 1) (.cons (.var 2) (.cons (.kon (.bool false)) .nil)))))) ⟨[.hnd 0, .dat (.int w), .dat (.int deep), .dat (.int mo), .un], c :: rest⟩ = .ok .nx ⟨mEnv w deep mo x, c1 :: rest⟩ := by
    simp [e1, mEnv]
  have e6 : denS (mdOf T (n + 1)) (.mov 4) ⟨mEnv w deep mo x', c1 :: rest⟩ = .ok (.ret (.dat x'.d)) ⟨mEnv w deep mo x', c1 :: rest⟩ := by
    simp [mEnv]
  exact run_ret (d := d__law_modest) (args := [.hnd 0, .dat (.int w), .dat (.int deep), .dat (.int mo)]) (m := c :: rest) rfl rfl ((ss_nx e5).trans ((ss_nx e4).trans (ss_ret e6)))
end
def prodA {α : Type} (ls : List (List α)) : List (List α) := ls.foldl (fun ch th => ch.flatMap fun a => th.map fun t => a ++ [t]) [[]]
abbrev prodD (ls : List (List D)) : List (List D) := prodA ls
def tupL (l : List D) : D := .tuple l
section
variable [CEach T]
theorem each_ok (n : Nat) (hn : 1 ≤ n) (m : List Cell) (ls : List (List D)) (hlen : ls.length ≤ 1000) (hl : ∀ k, (prodD (ls.take k)).length ≤ 1000000) : (mdOf T n).fns "one_of_each" [.dat (.list (ls.map .list))] m = .ok (.fr ((prodD ls).map tupL)) ⟨[], m⟩ := by
  obtain ⟨n, rfl⟩ : ∃ j, n = j + 1 := ⟨n - 1, by omega⟩
  rw [fns_one_of_each]
  have step : ∀ (pre : List (List D)) (th : List D), prodD (pre ++ [th]) = (prodD pre).flatMap fun a => th.map fun t => a ++ [t] := fun pre th => by
    unfold prodD prodA
    rw [List.foldl_append]
    rfl
  have wd : ∀ pre : List (List D), ∀ a ∈ prodD pre, a.length = pre.length := fun pre => by
    have gen : ∀ (pre : List (List D)) (ch : List (List D)) (k : Nat), (∀ a ∈ ch, a.length = k) → ∀ a ∈ pre.foldl (fun ch th => ch.flatMap fun a => th.map fun t => a ++ [t]) ch, a.length = k + pre.length := by
      intro pre
      induction pre with
      | nil => intro ch k h a ha; exact h a ha
      | cons th pre ih =>
        intro ch k h a ha
        have := ih (ch.flatMap fun a => th.map fun t => a ++ [t]) (k + 1) (fun b hb => by
          obtain ⟨b0, hb0, hb1⟩ := List.mem_flatMap.mp hb
          obtain ⟨t, _, rfl⟩ := List.mem_map.mp hb1
          rw [List.length_append, h b0 hb0]
          rfl) a ha
        rw [this, List.length_cons]
        omega
    intro a ha
    have := gen pre [[]] 0 (fun a ha => by rw [List.mem_singleton.mp ha]; rfl) a ha
    omega
  obtain ⟨s', e, x1, x2, hx, rfl⟩ := fl_pre (tg := .nm 2) (body := denSs (mdOf T n) (.cons (.asg 1 (.co2 (.nm 3) (.seq (.var 1)) (.nm 4) (.seq (.var 2)) (.bin .add (.var 3) (.tup (.cons (.var 4) .nil))) [("ahead", 3), ("thing", 4)] [4])) .nil)) PyData.list (fun pre s => ∃ x1 x2, x1 = Sl.own ((prodD pre).map tupL) ∧ s = ⟨[.dat (.list (ls.map .list)), x1, x2, .un, .un], m⟩) ls (fun pre th post hx s hs => by
    obtain ⟨x1, x2, rfl, rfl⟩ := hs
    have hpre : pre = ls.take pre.length := by rw [hx]; simp
    have hpre' : pre ++ [th] = ls.take (pre.length + 1) := by
      rw [hx, show pre ++ th :: post = (pre ++ [th]) ++ post by simp, List.take_left' (by simp)]
    have hl1 : (prodD pre).length ≤ 1000000 := by rw [hpre]; exact hl _
    have hl2 : (prodD (pre ++ [th])).length ≤ 1000000 := by rw [hpre']; exact hl _
    have hlt : pre.length ≤ ls.length := by rw [hx]; simp
    rw [step] at hl2
    have e := cl2_map (tg := .nm 3) (tg1 := .nm 4) (mi1 := denI (mdOf T n) (.seq (.var 2))) (m := den (mdOf T n) (.bin .add (.var 3) (.tup (.cons (.var 4) .nil)))) (vs := [3, 4]) (vs1 := [4]) tupL (fun a => th.map fun t => tupL (a ++ [t])) [.dat (.list (ls.map .list)), .dat (.list ((prodD pre).map tupL)), .dat (.list th), .un, .un] m (prodD pre) (fun a ha => by
      have hw := wd pre a ha
      refine ⟨_, th, [.dat (.list (ls.map .list)), .dat (.list ((prodD pre).map tupL)), .dat (.list th), .dat (tupL a), .un], rfl, ?_, by simp, fun acc => ⟨[.dat (.list (ls.map .list)), .dat (.list ((prodD pre).map tupL)), .dat (.list th), .dat (tupL a), .un], ?_, rfl⟩⟩
      · simp
      · have e := cl_map (tg := .nm 4) (m := den (mdOf T n) (.bin .add (.var 3) (.tup (.cons (.var 4) .nil)))) (vs := [4]) id (fun t => tupL (a ++ [t])) [.dat (.list (ls.map .list)), .dat (.list ((prodD pre).map tupL)), .dat (.list th), .dat (tupL a), .un] m th (fun t ht => by
          have h1 : a.length + 1 ≤ 1000 ∨ a.length = 1000 := by omega
          have h2 : Sp.Lim (a.length + 1) := by show _ ≤ 1000000; omega
          refine ⟨_, .dat (tupL (a ++ [t])), [.dat (.list (ls.map .list)), .dat (.list ((prodD pre).map tupL)), .dat (.list th), .dat (tupL a), .dat t], rfl, ?_, rfl, rfl⟩
          simp [tupL, h2]) acc
        rw [List.map_id] at e
        exact e) [] (by
          have : ((prodD pre).flatMap fun a => th.map fun t => tupL (a ++ [t])).length = ((prodD pre).flatMap fun a => th.map fun t => a ++ [t]).length := by
            rw [List.length_flatMap, List.length_flatMap]
            simp
          rw [this]
          simpa using hl2)
    have hfm : ((prodD pre).flatMap fun a => th.map fun t => tupL (a ++ [t])) = ((prodD pre).flatMap fun a => th.map fun t => a ++ [t]).map tupL := by
      rw [List.map_flatMap]
      simp [Function.comp_def]
    refine ⟨[.dat (.list (ls.map .list)), .own ((prodD pre).map tupL), .dat (.list th), .un, .un], _, rfl, ss_nx (s' := ⟨[.dat (.list (ls.map .list)), .own ((prodD (pre ++ [th])).map tupL), .dat (.list th), .un, .un], m⟩) ?_, _, _, rfl, rfl⟩
    have hL : Sp.Lim (prodD pre).length := hl1
    rw [hfm, ← step] at e
    simp at e
    simp [hL, e]) ⟨[.dat (.list (ls.map .list)), .own ((prodD []).map tupL), .un, .un, .un], m⟩ ⟨_, _, rfl, rfl⟩
  subst hx
  refine run_ret (d := d_one_of_each) (args := [.dat (.list (ls.map .list))]) (m := m) (s := ⟨[.dat (.list (ls.map .list)), .un, x2, .un, .un], m⟩) rfl rfl ((ss_nx (s' := ⟨[.dat (.list (ls.map .list)), .own ((prodD []).map tupL), .un, .un, .un], m⟩) ?_).trans ((ss_nx (lop_run (seq_var rfl) e)).trans (ss_ret ?_)))
  · simp [d_one_of_each, prodA, tupL]
  · simp
end
end Gq
end

section
namespace Gq
open PySem PySem.Spec L2
variable {T : Tb}
theorem prodA_snoc {α : Type} (pre : List (List α)) (th : List α) : prodA (pre ++ [th]) = (prodA pre).flatMap fun a => th.map fun t => a ++ [t] := by
  unfold prodA
  rw [List.foldl_append]
  rfl
theorem flatMap_len {α β : Type} (f : α → List β) (k : Nat) : ∀ l : List α, (∀ a ∈ l, (f a).length = k) → (l.flatMap f).length = l.length * k
  | [], _ => by simp
  | a :: l, h => by
    rw [List.flatMap_cons, List.length_append, h a List.mem_cons_self, flatMap_len f k l (fun b hb => h b (List.mem_cons_of_mem _ hb)), List.length_cons, Nat.succ_mul, Nat.add_comm]
theorem prodA_rep {α : Type} (cs : List α) : ∀ k, (prodA (List.replicate k cs)).length = cs.length ^ k
  | 0 => rfl
  | k + 1 => by
    rw [List.replicate_succ', prodA_snoc, flatMap_len _ cs.length _ (fun a _ => by simp), prodA_rep cs k, Nat.pow_succ]
theorem prodA_map {α β : Type} (f : α → β) (ls : List (List α)) : prodA (ls.map (·.map f)) = (prodA ls).map (·.map f) := by
  have gen : ∀ (ls : List (List α)) (ch : List (List α)), (ls.map (·.map f)).foldl (fun ch th => ch.flatMap fun a => th.map fun t => a ++ [t]) (ch.map (·.map f)) = (ls.foldl (fun ch th => ch.flatMap fun a => th.map fun t => a ++ [t]) ch).map (·.map f) := by
    intro ls
    induction ls with
    | nil => intro ch; rfl
    | cons th ls ih =>
      intro ch
      rw [List.map_cons, List.foldl_cons, List.foldl_cons, ← ih]
      congr 1
      rw [List.map_flatMap, List.flatMap_map]
      congr 1
      funext a
      rw [List.map_map, List.map_map]
      apply List.map_congr_left
      intro t _
      simp
  exact gen ls [[]]
theorem mem_prodA_rep {α : Type} (cs : List α) : ∀ (k : Nat) (r : List α), r.length = k → (∀ a ∈ r, a ∈ cs) → r ∈ prodA (List.replicate k cs) := by
  intro k
  induction k with
  | zero =>
    intro r hr _
    rw [List.eq_nil_of_length_eq_zero hr]
    exact List.mem_singleton.mpr rfl
  | succ k ih =>
    intro r hr ha
    have hne : r ≠ [] := fun z => by rw [z] at hr; cases hr
    rw [List.replicate_succ', prodA_snoc, List.mem_flatMap]
    refine ⟨r.dropLast, ih _ (by rw [List.length_dropLast]; omega) (fun a h => ha a (List.dropLast_subset r h)), List.mem_map.mpr ⟨r.getLast hne, ha _ (List.getLast_mem hne), (by rw [List.dropLast_concat_getLast hne])⟩⟩
theorem of_prodA_rep {α : Type} (cs : List α) : ∀ (k : Nat) (r : List α), r ∈ prodA (List.replicate k cs) → r.length = k ∧ ∀ a ∈ r, a ∈ cs := by
  intro k
  induction k with
  | zero =>
    intro r hr
    have : r = [] := List.mem_singleton.mp hr
    subst this
    exact ⟨rfl, fun a h => absurd h (List.not_mem_nil)⟩
  | succ k ih =>
    intro r hr
    rw [List.replicate_succ', prodA_snoc, List.mem_flatMap] at hr
    obtain ⟨b, hb, hr⟩ := hr
    obtain ⟨t, ht, rfl⟩ := List.mem_map.mp hr
    obtain ⟨h1, h2⟩ := ih b hb
    refine ⟨by rw [List.length_append, h1]; rfl, fun a ha => ?_⟩
    rcases List.mem_append.mp ha with z | z
    · exact h2 a z
    · rw [List.mem_singleton.mp z]; exact ht
def cellsTo (top : Nat) : List Cl := [.gap 0, .gap 1] ++ (List.range (top + 1)).map fun i => .num (i : Nat)
theorem cellsTo_len (top : Nat) : (cellsTo top).length = top + 3 := by simp [cellsTo]
theorem cellsTo_ok (top : Nat) (h : top ≤ 99) : ∀ c ∈ cellsTo top, Cl.ok c := fun c hc => by
  rcases List.mem_append.mp hc with z | z
  · rcases List.mem_cons.mp z with rfl | z
    · exact ⟨by omega, by omega⟩
    · rw [List.mem_singleton.mp z]; exact ⟨by omega, by omega⟩
  · obtain ⟨i, hi, rfl⟩ := List.mem_map.mp z
    have := List.mem_range.mp hi
    exact ⟨by omega, by omega⟩
def rowsAll (w top : Nat) : List (List Cl) := prodA (List.replicate w (cellsTo top))
def differs (x y : Cd) (r : List Cl) : Bool := x.tv r != y.tv r
def partedD (x y : Cd) (w top : Nat) : D := match (rowsAll w top).find? (differs x y) with
  | some r => rowD r
  | none => .none
@[simp] theorem tv_eqv (a b : Tv) : PyData.eqv (tvD a) (tvD b) = (a == b) := by
  rcases a with _ | a <;> rcases b with _ | b <;> try cases a
  all_goals try cases b
  all_goals simp
@[simp] theorem tv_dep (a : Tv) : (tvD a).depth = 0 := by
  rcases a with _ | a <;> simp
section
variable [CParted T]
theorem cells_e (top : Nat) : rgD 0 ((top : Int) + 1) = ((List.range (top + 1)).map fun i => Cl.num (i : Nat)).map Cl.d := by
  rw [show (top : Int) + 1 = ((top + 1 : Nat) : Int) by omega, rgD_lim]
  simp [natD, Cl.d]
theorem cells_A (md : Md) (t : Int) (hL : Sp.LrgOk (t + 1)) (m : List Cell) : den md (.lrg (.bin .add (.var 0) (.kon (.int 1)))) ⟨[.dat (.int t)], m⟩ = .ok (.fr (rgD 0 (t + 1))) ⟨[.dat (.int t)], m⟩ := by
  simp [hL]
theorem cells_B (md : Md) (top : Nat) (hL : Sp.LrgOk ((top : Int) + 1)) (m : List Cell) : den md (.lrg (.bin .add (.var 0) (.kon (.int 1)))) ⟨[.dat (.int top)], m⟩ = .ok (.fr (rgD 0 ((top : Int) + 1))) ⟨[.dat (.int top)], m⟩ := cells_A md top hL m
theorem cells_D (md : Md) (X : Co) (L : List D) (s : S) (hX : den md X s = .ok (.fr L) s) (h0 : late X = none) (hl : Sp.Lim (2 + L.length)) : den md (.bin .add (.lst (.cons (.tup (.cons (.kon (.str "gap")) (.cons (.kon (.int 0)) .nil))) (.cons (.tup (.cons (.kon (.str "gap")) (.cons (.kon (.int 1)) .nil))) .nil))) X) s = .ok (.fr (.tuple [.str "gap", .int 0] :: .tuple [.str "gap", .int 1] :: L)) s := by
  simp [hX, h0, hl]
theorem cells_E (md : Md) (top : Nat) (h : top ≤ 99) (m : List Cell) : denSs md d_cells_to.body ⟨[.dat (.int top)], m⟩ = .ok (.ret (.fr ((cellsTo top).map Cl.d))) ⟨[.dat (.int top)], m⟩ := by
  refine ss_ret ?_
  have e1 := cells_B md top (Sp.lrgOk_of (by omega) (by omega)) m
  rw [cells_e] at e1
  have e2 := cells_D md _ _ _ e1 rfl (by simp; show _ ≤ 1000000; omega)
  rw [Sp.denS_ret, Sp.retS_ap, e2]
  rfl
theorem cells_to_ok (n : Nat) (hn : 1 ≤ n) (m : List Cell) (top : Nat) (h : top ≤ 99) : (mdOf T n).fns "cells_to" [.dat (.int top)] m = .ok (.fr ((cellsTo top).map Cl.d)) ⟨[], m⟩ := by
  obtain ⟨n, rfl⟩ : ∃ j, n = j + 1 := ⟨n - 1, by omega⟩
  rw [fns_cells_to]
  exact run_ret (d := d_cells_to) (args := [.dat (.int top)]) (m := m) rfl rfl (cells_E (mdOf T n) top h m)
theorem check_top_ok (n : Nat) (hn : 3 ≤ n) (m : List Cell) (top hi : Nat) (h : top ≤ hi) : (mdOf T n).fns "check_top" [.dat (.int top), .dat (.int hi)] m = .ok (.dat .none) ⟨[], m⟩ := by
  obtain ⟨n, rfl⟩ : ∃ j, n = j + 3 := ⟨n - 3, by omega⟩
  rw [fns_check_top]
  have h1 : (top : Int) ≤ hi := by omega
  simp [d_check_top, is_within_ok, h1]
theorem parted_ok (x y : Cd) (w top : Nat) (w1 : 1 ≤ w) (w4 : w ≤ 4) (ht : top ≤ 3) (hx : x.ok w) (hy : y.ok w) (sx : x.size ≤ 60) (sy : y.size ≤ 60) (n : Nat) (nx : x.deep + 8 ≤ n) (ny : y.deep + 8 ≤ n) (m : List Cell) :
    ∃ t1 t2, (mdOf T n).fns "parted" [.dat x.d, .dat y.d, .dat (.int w), .dat (.int top)] m = .ok (.dat (partedD x y w top)) ⟨[], m ++ [t1] ++ [t2]⟩ := by
  obtain ⟨n, rfl⟩ : ∃ j, n = j + 7 := ⟨n - 7, by omega⟩
  obtain ⟨t1, e1⟩ := check_cd (T := T) x n m w (by omega) sx hx
  obtain ⟨t2, e2⟩ := check_cd (T := T) y n (m ++ [t1]) w (by omega) sy hy
  have e3 := check_top_ok (T := T) (n + 6) (by omega) (m ++ [t1] ++ [t2]) top 3 ht
  have e4 := cells_to_ok (T := T) (n + 6) (by omega) (m ++ [t1] ++ [t2]) top (by omega)
  have hlen : ∀ k, k ≤ 4 → (prodD (List.replicate k ((cellsTo top).map Cl.d))).length ≤ 1296 := fun k hk => by
    rw [prodA_rep, List.length_map, cellsTo_len]
    have h1 : (top + 3) ^ k ≤ 6 ^ k := Nat.pow_le_pow_left (by omega) k
    have h2 : 6 ^ k ≤ 6 ^ 4 := Nat.pow_le_pow_right (by omega) hk
    have h3 : (6 : Nat) ^ 4 = 1296 := by decide
    omega
  have e5 := each_ok (T := T) (n + 6) (by omega) (m ++ [t1] ++ [t2]) (List.replicate w ((cellsTo top).map Cl.d)) (by simp; omega) (fun k => by
    rw [List.take_replicate]
    have := hlen (min k w) (by omega)
    omega)
  have hp : (prodD (List.replicate w ((cellsTo top).map Cl.d))).map tupL = (rowsAll w top).map rowD := by
    have := prodA_map Cl.d (List.replicate w (cellsTo top))
    rw [List.map_replicate] at this
    unfold prodD
    rw [this, List.map_map]
    rfl
  rw [hp, List.map_replicate] at e5
  refine ⟨t1, t2, ?_⟩
  rw [fns_parted]
  obtain ⟨s', ⟨x4, rfl⟩, e6⟩ := fl_find (tg := .nm 4) (body := denSs (mdOf T (n + 6)) (.cons (.iff (.cmp .ne (.cal "truth_of" (.cons (.var 0) (.cons (.var 4) .nil))) (.cal "truth_of" (.cons (.var 1) (.cons (.var 4) .nil)))) (.cons (.mov 4) .nil) .nil) .nil)) rowD (differs x y) (fun r => .dat (rowD r)) (fun s => ∃ x4, s = ⟨[.dat x.d, .dat y.d, .dat (.int w), .dat (.int top), x4], m ++ [t1] ++ [t2]⟩) (rowsAll w top) (fun r hr s hs => by
    obtain ⟨x4, rfl⟩ := hs
    have hl := (of_prodA_rep _ w r hr).1
    have f1 := truth_tv (T := T) r x (n + 6) (by omega) (m ++ [t1] ++ [t2]) (by rw [hl]; exact hx)
    have f2 := truth_tv (T := T) r y (n + 6) (by omega) (m ++ [t1] ++ [t2]) (by rw [hl]; exact hy)
    simp at f1 f2
    refine ⟨[.dat x.d, .dat y.d, .dat (.int w), .dat (.int top), .dat (rowD r)], rfl, fun hp => ⟨_, ?_, .dat (rowD r), rfl⟩, fun hp => ⟨_, ?_, .dat (rowD r), rfl⟩⟩
    · have hp' : ¬ x.tv r = y.tv r := by simpa [differs] using hp
      have hb : (x.tv r == y.tv r) = false := by simpa using hp'
      simp [f1, f2, hb]
    · have hp' : x.tv r = y.tv r := by simpa [differs] using hp
      have hb : (x.tv r == y.tv r) = true := by simpa using hp'
      simp [f1, f2, hb]) ⟨[.dat x.d, .dat y.d, .dat (.int w), .dat (.int top), .un], m ++ [t1] ++ [t2]⟩ ⟨.un, rfl⟩
  have hw1 : (w : Int) ≤ 1000000 := by omega
  have hw2 : w ≤ 1000000 := by omega
  simp at e1 e2 e3 e4 e5 e6
  cases hf : (rowsAll w top).find? (differs x y) with
  | none =>
    rw [hf] at e6
    simp [d_parted, e1, e2, e3, e4, hw1, hw2, e5, e6, partedD, hf]
  | some r =>
    rw [hf] at e6
    simp [d_parted, e1, e2, e3, e4, hw1, hw2, e5, e6, partedD, hf]
end
end Gq
end

section
namespace Gq.Pk15
open PySem PySem.Spec L2
abbrev md : Md := mdOf pg.tb 40
structure Few (w : Nat) (x : Cd) : Prop where
  ok : x.ok w
  size : x.size ≤ 12
  deep : x.deep ≤ 5
structure Alike (w : Nat) (a b : Cd) : Prop where
  oa : a.ok w
  ob : b.ok w
  sa : a.size ≤ 60
  sb : b.size ≤ 60
  da : a.deep ≤ 10
  db : b.deep ≤ 10
  same : ∀ r, a.tv r = b.tv r
theorem t_dist (a b c : Tv) : oAnd a (oOr b c) = oOr (oAnd a b) (oAnd a c) := by
  rcases a with _ | a <;> rcases b with _ | b <;> rcases c with _ | c <;> try cases a
  all_goals try cases b
  all_goals try cases c
  all_goals rfl
theorem t_tru (a b : Tv) : oTru (oAnd a b) = oAnd (oTru a) (oTru b) := by
  rcases a with _ | a <;> rcases b with _ | b <;> try cases a
  all_goals try cases b
  all_goals rfl
theorem t_abs (a b : Tv) : oOr a (oAnd a b) = a := by
  rcases a with _ | a <;> rcases b with _ | b <;> try cases a
  all_goals try cases b
  all_goals rfl
theorem t_tru2 (a : Tv) : oTru (oTru a) = oTru a := by
  rcases a with _ | a <;> try cases a
  all_goals rfl
theorem same_ok' (w : Nat) (x y z : Cd) (hx : Few w x) (hy : Few w y) (hz : Few w z) (n : Nat) (hn : 2 ≤ n) (rest : List Cell) (c : Cell) (hc : Dc c) :
    ∃ a b c', Dc c' ∧ Alike w a b ∧ (mdOf pg.tb n).fns "_law_same" [.hnd 0, .dat x.d, .dat y.d, .dat z.d] (c :: rest) = .ok (.dat (.tuple [a.d, b.d])) ⟨[], c' :: rest⟩ := by
  obtain ⟨n, rfl⟩ : ∃ j, n = j + 1 := ⟨n - 1, by omega⟩
  rw [fns__law_same]
  obtain ⟨v, c1, d1, p1, q1, e1⟩ := nxt (T := pg.tb) n (by omega) rest c hc 7 (by omega) (by omega)
  obtain ⟨ox, sx, dx⟩ := hx
  obtain ⟨oy, sy, dy⟩ := hy
  obtain ⟨oz, sz, dz⟩ := hz
  have hv : v = 0 ∨ v = 1 ∨ v = 2 ∨ v = 3 ∨ v = 4 ∨ v = 5 ∨ v = 6 := by omega
  rcases hv with rfl | rfl | rfl | rfl | rfl | rfl | rfl
  · refine ⟨.and x y, .and y x, c1, d1, ⟨⟨ox, oy⟩, ⟨oy, ox⟩, ?_, ?_, ?_, ?_, fun r => oAnd_comm _ _⟩, by simp [d__law_same, e1, Cd.d]⟩ <;> simp only [Cd.size, Cd.deep] <;> omega
  · refine ⟨.or x (.or y z), .or (.or x y) z, c1, d1, ⟨⟨ox, oy, oz⟩, ⟨⟨ox, oy⟩, oz⟩, ?_, ?_, ?_, ?_, fun r => (oOr_assoc _ _ _).symm⟩, by simp [d__law_same, e1, Cd.d]⟩ <;> simp only [Cd.size, Cd.deep] <;> omega
  · refine ⟨.not (.and x y), .or (.not x) (.not y), c1, d1, ⟨⟨ox, oy⟩, ⟨ox, oy⟩, ?_, ?_, ?_, ?_, fun r => oNot_and _ _⟩, by simp [d__law_same, e1, Cd.d]⟩ <;> simp only [Cd.size, Cd.deep] <;> omega
  · refine ⟨.and x (.or y z), .or (.and x y) (.and x z), c1, d1, ⟨⟨ox, oy, oz⟩, ⟨⟨ox, oy⟩, ox, oz⟩, ?_, ?_, ?_, ?_, fun r => t_dist _ _ _⟩, by simp [d__law_same, e1, Cd.d]⟩ <;> simp only [Cd.size, Cd.deep] <;> omega
  · refine ⟨.tru (.and x y), .and (.tru x) (.tru y), c1, d1, ⟨⟨ox, oy⟩, ⟨ox, oy⟩, ?_, ?_, ?_, ?_, fun r => t_tru _ _⟩, by simp [d__law_same, e1, Cd.d]⟩ <;> simp only [Cd.size, Cd.deep] <;> omega
  · refine ⟨.not (.not x), .or x (.and x y), c1, d1, ⟨ox, ⟨ox, ox, oy⟩, ?_, ?_, ?_, ?_, fun r => by simp only [Cd.tv, oNot_not, t_abs]⟩, by simp [d__law_same, e1, Cd.d]⟩ <;> simp only [Cd.size, Cd.deep] <;> omega
  · refine ⟨.tru (.tru x), .tru x, c1, d1, ⟨ox, ox, ?_, ?_, ?_, ?_, fun r => t_tru2 _⟩, by simp [d__law_same, e1, Cd.d]⟩ <;> simp only [Cd.size, Cd.deep] <;> omega
theorem three' (r : List Cl) (x : Cd) (n : Nat) (hn : x.deep + 7 ≤ n) (m : List Cell) (hc : x.size ≤ 60) (ho : x.ok r.length) (hr : ∀ c ∈ r, c.ok) (h1 : 1 ≤ r.length) (h8 : r.length ≤ 8) :
    ∃ t, (mdOf pg.tb n).fns "three" [.dat x.d, .dat (rowD r)] m = .ok (.dat (tvD (x.tv r))) ⟨[], m ++ [t]⟩ := by
  obtain ⟨n, rfl⟩ : ∃ j, n = j + 7 := ⟨n - 7, by omega⟩
  exact three_ok r x n m (by omega) hc ho hr h1 h8
def st (L : D) (a2 a3 a4 a5 a6 a7 a8 a9 a10 a11 a13 a14 : Sl) : List Sl := [.dat L, .hnd 0, a2, a3, a4, a5, a6, a7, a8, a9, a10, a11, .un, a13, a14]
def neC (i j k : Co) (l : Co) : So := (.iff (.cmp .ne (.cal "three" (.cons i (.cons j .nil))) (.cal "three" (.cons k (.cons l .nil)))) (.cons (.ret (.kon (.bool false))) .nil) .nil)
def i1 : So := (.asg 10 (.com (.nm 12) (.rn1 (.kon (.int 2))) .nil (.cal "_law_next" (.cons (.var 1) (.cons (.kon (.int 10)) .nil))) [("_law_k", 12)]))
def i2 : So := (.asg 11 (.bl1 .tuple (.com (.nm 12) (.rn1 (.var 6)) .nil (.cal "_law_cell" (.cons (.var 1) (.cons (.var 10) .nil))) [("_law_k", 12)])))
def i3 : So := neC (.var 8) (.var 11) (.var 9) (.var 11)
def j1 : So := (.asg 13 (.bin .add (.lst (.cons (.tup (.cons (.kon (.str "gap")) (.cons (.kon (.int 0)) .nil))) (.cons (.tup (.cons (.kon (.str "gap")) (.cons (.kon (.int 1)) .nil))) .nil))) (.lrg (.bin .add (.var 7) (.kon (.int 1))))))
def j2 : So := (.asg 14 (.bl1 .tuple (.com (.nm 12) (.rn1 (.var 6)) .nil (.sub (.var 13) (.cal "_law_next" (.cons (.var 1) (.cons (.bl1 .len (.var 13)) .nil)))) [("_law_k", 12)])))
def j3 : So := neC (.sub (.var 3) (.kon (.int 0))) (.var 14) (.sub (.var 3) (.kon (.int 1))) (.var 14)
def i4 : So := (.iff (.cmp .is (.var 4) (.kon .none)) (.cons j1 (.cons j2 (.cons j3 .nil))) .nil)
def inB : SoL := .cons i1 (.cons i2 (.cons i3 (.cons i4 .nil)))
theorem inB_ok (L : D) (a2 a5 a10 a11 a13 a14 : Sl) (w top : Nat) (w1 : 1 ≤ w) (w4 : w ≤ 4) (ht : top ≤ 3) (x y z a b : Cd) (hx : Few w x) (hy : Few w y) (hz : Few w z) (hab : Alike w a b) (c : Cell) (rest : List Cell) (hc : Dc c) :
    ∃ b10 b11 b13 b14 c' rest', Dc c' ∧ denSs md inB ⟨st L a2 (.own [x.d, y.d, z.d]) (.dat (partedD x y w top)) a5 (.dat (.int w)) (.dat (.int top)) (.dat a.d) (.dat b.d) a10 a11 a13 a14, c :: rest⟩ = .ok .nx ⟨st L a2 (.own [x.d, y.d, z.d]) (.dat (partedD x y w top)) a5 (.dat (.int w)) (.dat (.int top)) (.dat a.d) (.dat b.d) b10 b11 b13 b14, c' :: rest'⟩ := by
  obtain ⟨ox, sx, dx⟩ := hx
  obtain ⟨oy, sy, dy⟩ := hy
  have dda := hab.da
  have ddb := hab.db
  let E := fun (a10 a11 a13 a14 : Sl) => st L a2 (.own [x.d, y.d, z.d]) (.dat (partedD x y w top)) a5 (.dat (.int w)) (.dat (.int top)) (.dat a.d) (.dat b.d) a10 a11 a13 a14
  -- names
  obtain ⟨ns, c1, d1, l1, o1, e1⟩ := draw_list PyData.int (fun i => 0 ≤ i ∧ i ≤ 9) rest (den md (.cal "_law_next" (.cons (.var 1) (.cons (.kon (.int 10)) .nil)))) (.nm 12) 12 (E a10 a11 a13 a14) (fun d => ⟨_, rfl, rfl, fun c hc => by
    obtain ⟨v, c', hc', p, q, e⟩ := nxt (T := pg.tb) 40 (by omega) rest c hc 10 (by omega) (by omega)
    exact ⟨v, c', hc', ⟨p, by omega⟩, by simp [E, st, e]⟩⟩) (rgD 0 2) c hc
  have hN : Nms ns := ⟨(fun q => by rw [q] at l1; cases l1), o1, by rw [l1]; simp⟩
  have h1 : denS md i1 ⟨E a10 a11 a13 a14, c :: rest⟩ = .ok .nx ⟨E (.own (ns.map .int)) a11 a13 a14, c1 :: rest⟩ := by
    simp [E, st] at e1
    simp [i1, E, st, e1]
  -- the row
  obtain ⟨r, c2, sl2, d2, s2, l2, o2, e2⟩ := row_loop (T := pg.tb) 40 (by omega) rest ns hN (.nm 12) 12 1 10 (fun sl => E sl a11 a13 a14) (fun sl d => ⟨_, rfl, rfl, rfl, rfl, rfl, rfl⟩) (rgD 0 w) c1 (.own (ns.map .int)) d1 (.inl rfl)
  have hl : r.length = w := by rw [l2]; simp
  have aw : (w : Int) ≤ 1000 := by omega
  have aw2 : w ≤ 1000 := by omega
  have ar : r.length ≤ 1000 := by omega
  have h2 : denS md i2 ⟨E (.own (ns.map .int)) a11 a13 a14, c1 :: rest⟩ = .ok .nx ⟨E sl2 (.dat (rowD r)) a13 a14, c2 :: rest⟩ := by
    simp [E, st] at e2
    simp [i2, E, st, aw, aw2, ar, e2, rowD]
  obtain ⟨t1, f1⟩ := three' r a 40 (by omega) (c2 :: rest) hab.sa (by rw [hl]; exact hab.oa) o2 (by omega) (by omega)
  obtain ⟨t2, f2⟩ := three' r b 40 (by omega) (c2 :: rest ++ [t1]) hab.sb (by rw [hl]; exact hab.ob) o2 (by omega) (by omega)
  have hs := hab.same r
  have h3 : denS md i3 ⟨E sl2 (.dat (rowD r)) a13 a14, c2 :: rest⟩ = .ok .nx ⟨E sl2 (.dat (rowD r)) a13 a14, c2 :: (rest ++ [t1] ++ [t2])⟩ := by
    simp at f1 f2
    simp [i3, neC, E, st, f1, f2, hs]
  cases hf : (rowsAll w top).find? (differs x y) with
  | some q =>
    refine ⟨sl2, .dat (rowD r), a13, a14, c2, rest ++ [t1] ++ [t2], d2, (ss_nx h1).trans ((ss_nx h2).trans ((ss_nx h3).trans (ss_nx ?_)))⟩
    simp [i4, E, st, partedD, hf, rowD]
  | none =>
    have hall := List.find?_eq_none.mp hf
    obtain ⟨cs, c3, d3, l3, o3, e3⟩ := draw_list Cl.d (fun i => i ∈ cellsTo top) (rest ++ [t1] ++ [t2]) (den md (.sub (.var 13) (.cal "_law_next" (.cons (.var 1) (.cons (.bl1 .len (.var 13)) .nil))))) (.nm 12) 12 (E sl2 (.dat (rowD r)) (.own ((cellsTo top).map Cl.d)) a14) (fun d => ⟨_, rfl, rfl, fun c hc => by
      have hlen := cellsTo_len top
      obtain ⟨v, c', hc', q, e⟩ := nxtN (T := pg.tb) 40 (by omega) (rest ++ [t1] ++ [t2]) c hc (cellsTo top).length (by omega) (by omega)
      have q1 : (cellsTo top)[v]? = some (cellsTo top)[v] := List.getElem?_eq_getElem q
      have q2 : (v : Int) < (cellsTo top).length := by omega
      simp at e
      exact ⟨(cellsTo top)[v], c', hc', List.getElem_mem q, by simp [E, st, e, q1, q2]⟩⟩) (rgD 0 w) c2 d2
    have hl3 : cs.length = w := by rw [l3]; simp
    have ac : cs.length ≤ 1000 := by omega
    have k1 : denS md j1 ⟨E sl2 (.dat (rowD r)) a13 a14, c2 :: (rest ++ [t1] ++ [t2])⟩ = .ok .nx ⟨E sl2 (.dat (rowD r)) (.own ((cellsTo top).map Cl.d)) a14, c2 :: (rest ++ [t1] ++ [t2])⟩ := by
      have q1 : den md (.lrg (.bin .add (.var 7) (.kon (.int 1)))) ⟨E sl2 (.dat (rowD r)) a13 a14, c2 :: (rest ++ [t1] ++ [t2])⟩ = .ok (.fr (rgD 0 ((top : Int) + 1))) ⟨E sl2 (.dat (rowD r)) a13 a14, c2 :: (rest ++ [t1] ++ [t2])⟩ := by
        have hL : Sp.LrgOk ((top : Int) + 1) := Sp.lrgOk_of (by omega) (by omega)
        generalize hg : (top : Int) = tt at hL
        simp only [E, st, hg]
        simp [hL]
      rw [cells_e] at q1
      have q2 := cells_D md _ _ _ q1 rfl (by simp; show _ ≤ 1000000; omega)
      rw [j1, Sp.denS_asg, Sp.asgS_ap, q2]
      rfl
    have k2 : denS md j2 ⟨E sl2 (.dat (rowD r)) (.own ((cellsTo top).map Cl.d)) a14, c2 :: (rest ++ [t1] ++ [t2])⟩ = .ok .nx ⟨E sl2 (.dat (rowD r)) (.own ((cellsTo top).map Cl.d)) (.dat (rowD cs)), c3 :: (rest ++ [t1] ++ [t2])⟩ := by
      simp [E, st, rowD] at e3
      simp [j2, E, st, aw, aw2, ac, e3, rowD]
    have hok : ∀ c ∈ cs, Cl.ok c := fun c hc => cellsTo_ok top (by omega) c (o3 c hc)
    obtain ⟨t3, f3⟩ := three' cs x 40 (by omega) (c3 :: (rest ++ [t1] ++ [t2])) (by omega) (by rw [hl3]; exact ox) hok (by omega) (by omega)
    obtain ⟨t4, f4⟩ := three' cs y 40 (by omega) (c3 :: (rest ++ [t1] ++ [t2]) ++ [t3]) (by omega) (by rw [hl3]; exact oy) hok (by omega) (by omega)
    have hin : cs ∈ rowsAll w top := mem_prodA_rep _ w cs hl3 o3
    have hd : x.tv cs = y.tv cs := by simpa [differs] using hall cs hin
    have k3 : denS md j3 ⟨E sl2 (.dat (rowD r)) (.own ((cellsTo top).map Cl.d)) (.dat (rowD cs)), c3 :: (rest ++ [t1] ++ [t2])⟩ = .ok .nx ⟨E sl2 (.dat (rowD r)) (.own ((cellsTo top).map Cl.d)) (.dat (rowD cs)), c3 :: (rest ++ [t1] ++ [t2] ++ [t3] ++ [t4])⟩ := by
      simp at f3 f4
      simp [j3, neC, E, st, f3, f4, hd]
    refine ⟨sl2, .dat (rowD r), .own ((cellsTo top).map Cl.d), .dat (rowD cs), c3, rest ++ [t1] ++ [t2] ++ [t3] ++ [t4], d3, (ss_nx h1).trans ((ss_nx h2).trans ((ss_nx h3).trans (ss_nx ?_)))⟩
    have k : denSs md (.cons j1 (.cons j2 (.cons j3 .nil))) ⟨E sl2 (.dat (rowD r)) a13 a14, c2 :: (rest ++ [t1] ++ [t2])⟩ = .ok .nx ⟨E sl2 (.dat (rowD r)) (.own ((cellsTo top).map Cl.d)) (.dat (rowD cs)), c3 :: (rest ++ [t1] ++ [t2] ++ [t3] ++ [t4])⟩ :=
      (ss_nx k1).trans ((ss_nx k2).trans (ss_nx k3))
    have tst : denT md (.cmp .is (.var 4) (.kon .none)) ⟨E sl2 (.dat (rowD r)) a13 a14, c2 :: (rest ++ [t1] ++ [t2])⟩ = .ok true ⟨E sl2 (.dat (rowD r)) a13 a14, c2 :: (rest ++ [t1] ++ [t2])⟩ := by
      simp [E, st, partedD, hf]
    rw [i4, Sp.denS_iff, Sp.ifS_ap, tst, Sp.bind_ok, if_pos rfl]
    exact k

def s1 : So := (.unp [6, 7] (.tup (.cons (.bin .add (.kon (.int 1)) (.cal "_law_next" (.cons (.var 1) (.cons (.kon (.int 4)) .nil)))) (.cons (.cal "_law_next" (.cons (.var 1) (.cons (.kon (.int 3)) .nil))) .nil))))
def s2 : So := (.asg 3 (.com (.nm 12) (.rn1 (.kon (.int 3))) .nil (.cal "_law_modest" (.cons (.var 1) (.cons (.var 6) (.cons (.kon (.int 1)) (.cons (.kon (.int 12)) .nil))))) [("_law_k", 12)]))
def s3 : So := (.unp [8, 9] (.cal "_law_same" (.cons (.var 1) (.cons (.sub (.var 3) (.kon (.int 0))) (.cons (.sub (.var 3) (.kon (.int 1))) (.cons (.sub (.var 3) (.kon (.int 2))) .nil))))))
def s4 : So := (.iff (.cmp .isnot (.cal "parted" (.cons (.var 8) (.cons (.var 9) (.cons (.var 6) (.cons (.var 7) .nil))))) (.kon .none)) (.cons (.ret (.kon (.bool false))) .nil) .nil)
def s5 : So := (.asg 4 (.cal "parted" (.cons (.sub (.var 3) (.kon (.int 0))) (.cons (.sub (.var 3) (.kon (.int 1))) (.cons (.var 6) (.cons (.var 7) .nil))))))
def s6 : So := (.iff (.bls true (.cons (.cmp .isnot (.var 4) (.kon .none)) (.cons (.cmp .eq (.cal "three" (.cons (.sub (.var 3) (.kon (.int 0))) (.cons (.var 4) .nil))) (.cal "three" (.cons (.sub (.var 3) (.kon (.int 1))) (.cons (.var 4) .nil)))) .nil))) (.cons (.ret (.kon (.bool false))) .nil) .nil)
def s7 : So := .lop (.nm 5) (.rn1 (.kon (.int 5))) inB
def body : SoL := .cons s1 (.cons s2 (.cons s3 (.cons s4 (.cons s5 (.cons s6 (.cons s7 .nil))))))
theorem turn_ok (L : D) (a2 a3 a4 a5 a6 a7 a8 a9 a10 a11 a13 a14 : Sl) (c : Cell) (rest : List Cell) (hc : Dc c) : ∃ b3 b4 b5 b6 b7 b8 b9 b10 b11 b13 b14 c' rest', Dc c' ∧ denSs md body ⟨st L a2 a3 a4 a5 a6 a7 a8 a9 a10 a11 a13 a14, c :: rest⟩ = .ok .nx ⟨st L a2 b3 b4 b5 b6 b7 b8 b9 b10 b11 b13 b14, c' :: rest'⟩ := by
  obtain ⟨v1, c1, d1, p1, q1, e1⟩ := nxt (T := pg.tb) 40 (by omega) rest c hc 4 (by omega) (by omega)
  obtain ⟨w, hw⟩ : ∃ w : Nat, 1 + v1 = w := ⟨(1 + v1).toNat, by omega⟩
  obtain ⟨top, c2, d2, p2, e2⟩ := nxtN (T := pg.tb) 40 (by omega) rest c1 d1 3 (by omega) (by omega)
  have w1 : 1 ≤ w := by omega
  have w4 : w ≤ 4 := by omega
  have h1 : denS md s1 ⟨st L a2 a3 a4 a5 a6 a7 a8 a9 a10 a11 a13 a14, c :: rest⟩ = .ok .nx ⟨st L a2 a3 a4 a5 (.dat (.int w)) (.dat (.int top)) a8 a9 a10 a11 a13 a14, c2 :: rest⟩ := by
    simp at e2
    simp [s1, st, e1, hw, e2]
  obtain ⟨xs, c3, d3, l3, o3, e3⟩ := draw_list Cd.d (fun x => Few w x) rest (den md (.cal "_law_modest" (.cons (.var 1) (.cons (.var 6) (.cons (.kon (.int 1)) (.cons (.kon (.int 12)) .nil)))))) (.nm 12) 12 (st L a2 a3 a4 a5 (.dat (.int w)) (.dat (.int top)) a8 a9 a10 a11 a13 a14) (fun d => ⟨_, rfl, rfl, fun c hc => by
    obtain ⟨x, c', hc', o, q, s, e⟩ := modest (T := pg.tb) w w1 (by omega) 1 12 40 (by omega) (by omega) (by omega) rest c hc
    exact ⟨x, c', hc', ⟨o, s, q⟩, by simp at e; simp [st, e]⟩⟩) (rgD 0 3) c2 d2
  obtain ⟨x, y, z, rfl⟩ : ∃ x y z, xs = [x, y, z] := by
    have hl : xs.length = 3 := by rw [l3]; rfl
    match xs, hl with
    | [x, y, z], _ => exact ⟨x, y, z, rfl⟩
  have hx := o3 x (by simp)
  have hy := o3 y (by simp)
  have hz := o3 z (by simp)
  have dx := hx.deep
  have dy := hy.deep
  have sx := hx.size
  have sy := hy.size
  have h2 : denS md s2 ⟨st L a2 a3 a4 a5 (.dat (.int w)) (.dat (.int top)) a8 a9 a10 a11 a13 a14, c2 :: rest⟩ = .ok .nx ⟨st L a2 (.own [x.d, y.d, z.d]) a4 a5 (.dat (.int w)) (.dat (.int top)) a8 a9 a10 a11 a13 a14, c3 :: rest⟩ := by
    simp [st] at e3
    simp [s2, st, e3]
  obtain ⟨a, b, c4, d4, hab, e4⟩ := same_ok' w x y z hx hy hz 40 (by omega) rest c3 d3
  have dda := hab.da
  have ddb := hab.db
  have h3 : denS md s3 ⟨st L a2 (.own [x.d, y.d, z.d]) a4 a5 (.dat (.int w)) (.dat (.int top)) a8 a9 a10 a11 a13 a14, c3 :: rest⟩ = .ok .nx ⟨st L a2 (.own [x.d, y.d, z.d]) a4 a5 (.dat (.int w)) (.dat (.int top)) (.dat a.d) (.dat b.d) a10 a11 a13 a14, c4 :: rest⟩ := by
    simp [s3, st, e4]
  obtain ⟨t1, t2, e5⟩ := parted_ok (T := pg.tb) a b w top w1 w4 (by omega) hab.oa hab.ob hab.sa hab.sb 40 (by omega) (by omega) (c4 :: rest)
  have hno : partedD a b w top = .none := by
    have : (rowsAll w top).find? (differs a b) = none := List.find?_eq_none.mpr fun r _ => by simp [differs, hab.same r]
    simp [partedD, this]
  rw [hno] at e5
  have h4 : denS md s4 ⟨st L a2 (.own [x.d, y.d, z.d]) a4 a5 (.dat (.int w)) (.dat (.int top)) (.dat a.d) (.dat b.d) a10 a11 a13 a14, c4 :: rest⟩ = .ok .nx ⟨st L a2 (.own [x.d, y.d, z.d]) a4 a5 (.dat (.int w)) (.dat (.int top)) (.dat a.d) (.dat b.d) a10 a11 a13 a14, c4 :: (rest ++ [t1] ++ [t2])⟩ := by
    simp at e5
    simp [s4, st, e5]
  obtain ⟨t3, t4, e6⟩ := parted_ok (T := pg.tb) x y w top w1 w4 (by omega) hx.ok hy.ok (by omega) (by omega) 40 (by omega) (by omega) (c4 :: (rest ++ [t1] ++ [t2]))
  have h5 : denS md s5 ⟨st L a2 (.own [x.d, y.d, z.d]) a4 a5 (.dat (.int w)) (.dat (.int top)) (.dat a.d) (.dat b.d) a10 a11 a13 a14, c4 :: (rest ++ [t1] ++ [t2])⟩ = .ok .nx ⟨st L a2 (.own [x.d, y.d, z.d]) (.dat (partedD x y w top)) a5 (.dat (.int w)) (.dat (.int top)) (.dat a.d) (.dat b.d) a10 a11 a13 a14, c4 :: (rest ++ [t1] ++ [t2] ++ [t3] ++ [t4])⟩ := by
    simp at e6
    simp [s5, st, e6]
  obtain ⟨rest6, h6⟩ : ∃ rest6, denS md s6 ⟨st L a2 (.own [x.d, y.d, z.d]) (.dat (partedD x y w top)) a5 (.dat (.int w)) (.dat (.int top)) (.dat a.d) (.dat b.d) a10 a11 a13 a14, c4 :: (rest ++ [t1] ++ [t2] ++ [t3] ++ [t4])⟩ = .ok .nx ⟨st L a2 (.own [x.d, y.d, z.d]) (.dat (partedD x y w top)) a5 (.dat (.int w)) (.dat (.int top)) (.dat a.d) (.dat b.d) a10 a11 a13 a14, c4 :: rest6⟩ := by
    generalize rest ++ [t1] ++ [t2] ++ [t3] ++ [t4] = rs
    cases hf : (rowsAll w top).find? (differs x y) with
    | none =>
      refine ⟨rs, ?_⟩
      simp [s6, st, partedD, hf]
    | some r =>
      obtain ⟨hl, hin⟩ := of_prodA_rep _ w r (List.mem_of_find?_eq_some hf)
      have hok : ∀ c ∈ r, Cl.ok c := fun c hc => cellsTo_ok top (by omega) c (hin c hc)
      obtain ⟨t5, f5⟩ := three' r x 40 (by omega) (c4 :: rs) (by omega) (by rw [hl]; exact hx.ok) hok (by omega) (by omega)
      obtain ⟨t6, f6⟩ := three' r y 40 (by omega) (c4 :: rs ++ [t5]) (by omega) (by rw [hl]; exact hy.ok) hok (by omega) (by omega)
      have hd := List.find?_some hf
      have hd' : ¬ x.tv r = y.tv r := by simpa [differs] using hd
      have hb : (x.tv r == y.tv r) = false := by simpa using hd'
      refine ⟨rs ++ [t5] ++ [t6], ?_⟩
      have hr : rowD r = .tuple (r.map Cl.d) := rfl
      rw [hr] at f5 f6
      simp at f5 f6
      simp [s6, st, partedD, hf, hr, f5, f6, hb]
  obtain ⟨s', e7, c7, rest7, x5, x10, x11, x13, x14, d7, rfl⟩ := fl_inv (tg := .nm 5) (body := denSs md inB) (ds := rgD 0 5) (fun s => ∃ c rest a5 a10 a11 a13 a14, Dc c ∧ s = ⟨st L a2 (.own [x.d, y.d, z.d]) (.dat (partedD x y w top)) a5 (.dat (.int w)) (.dat (.int top)) (.dat a.d) (.dat b.d) a10 a11 a13 a14, c :: rest⟩) (fun d hd s hs => by
    obtain ⟨c, rest, a5, a10, a11, a13, a14, hc, rfl⟩ := hs
    obtain ⟨b10, b11, b13, b14, c', rest', hc', e⟩ := inB_ok L a2 (.dat d) a10 a11 a13 a14 w top w1 w4 (by omega) x y z a b hx hy hz hab c rest hc
    exact ⟨st L a2 (.own [x.d, y.d, z.d]) (.dat (partedD x y w top)) (.dat d) (.dat (.int w)) (.dat (.int top)) (.dat a.d) (.dat b.d) a10 a11 a13 a14, _, rfl, e, c', rest', .dat d, b10, b11, b13, b14, hc', rfl⟩) ⟨st L a2 (.own [x.d, y.d, z.d]) (.dat (partedD x y w top)) a5 (.dat (.int w)) (.dat (.int top)) (.dat a.d) (.dat b.d) a10 a11 a13 a14, c4 :: rest6⟩ ⟨c4, rest6, _, _, _, _, _, d4, rfl⟩
  exact ⟨_, _, _, _, _, _, _, _, _, _, _, c7, rest7, d7, (ss_nx h1).trans ((ss_nx h2).trans ((ss_nx h3).trans ((ss_nx h4).trans ((ss_nx h5).trans ((ss_nx h6).trans (ss_nx (lop_rng (Sp.rngOk_of (by omega) (by omega)) e7)))))))⟩
theorem hlaw (ns : List Int) : (lawRun pg 40 t_law ns).isTrue = true := by
  obtain ⟨c, hc, e1⟩ := law_start (T := pg.tb) 40 (by omega) ns (List.replicate 13 .un)
  obtain ⟨s', e2, c2, rest2, b2, b3, b4, b5, b6, b7, b8, b9, b10, b11, b13, b14, _, rfl⟩ := fl_inv (tg := .nm 2) (body := denSs md body) (ds := rgD 0 4) (fun s => ∃ c rest a2 a3 a4 a5 a6 a7 a8 a9 a10 a11 a13 a14, Dc c ∧ s = ⟨st (.list (ns.map .int)) a2 a3 a4 a5 a6 a7 a8 a9 a10 a11 a13 a14, c :: rest⟩) (fun d hd s hs => by
    obtain ⟨c, rest, a2, a3, a4, a5, a6, a7, a8, a9, a10, a11, a13, a14, hc, rfl⟩ := hs
    obtain ⟨b3, b4, b5, b6, b7, b8, b9, b10, b11, b13, b14, c', rest', hc', e⟩ := turn_ok (.list (ns.map .int)) (.dat d) a3 a4 a5 a6 a7 a8 a9 a10 a11 a13 a14 c rest hc
    exact ⟨st (.list (ns.map .int)) (.dat d) a3 a4 a5 a6 a7 a8 a9 a10 a11 a13 a14, _, rfl, e, c', rest', _, _, _, _, _, _, _, _, _, _, _, _, hc', rfl⟩) ⟨st (.list (ns.map .int)) .un .un .un .un .un .un .un .un .un .un .un .un, [c]⟩ ⟨c, [], _, _, _, _, _, _, _, _, _, _, _, _, hc, rfl⟩
  exact law_end (s := ⟨st (.list (ns.map .int)) b2 b3 b4 b5 b6 b7 b8 b9 b10 b11 b13 b14, c2 :: rest2⟩) rfl ((ss_nx e1).trans ((ss_nx (lop_rng (Sp.rngOk_of (by omega) (by omega)) e2)).trans (ss_ret rfl)))
end Gq.Pk15
end

namespace Gq.Pk15
open PySem PySem.Spec PyProof.Rows L2
theorem okD : pg.okD = true := by decide +kernel
end Gq.Pk15
open PySem PySem.W PySem.Calls PyProof.Rows
theorem PySem.Challenge.cw_gaprows_k15_whole_alike_or_parted_holds : PySem.Challenge.rw_gaprows_k15_whole_alike_or_parted.Holds := by
  w_on; o_law
  refine HandSHeadRun.head_any (r := OpenLaw.row PySem.Challenge.rw_gaprows_k15_whole_alike_or_parted) (q := view (OpenLaw.row PySem.Challenge.rw_gaprows_k15_whole_alike_or_parted).prog [53]) (H := Gq.Pk15.hk) (ob := Gq.Pk15.ob) (M := 4000) (loose := Gq.Pk15.names) (d := HandSHeadRun.topDef (OpenLaw.row PySem.Challenge.rw_gaprows_k15_whole_alike_or_parted).prog 53) (kwd := []) Gq.Pk15.ob_eq
    (by kernel_rfl) (fun s => by kernel_rfl) Gq.Pk15.run (by kernel_rfl) (by kernel_rfl) (by kernel_rfl) (by rfl) (by first | assumption | decide +kernel) (by decide +kernel) ⟨rfl, rfl, rfl, rfl, rfl, by decide +kernel⟩ ?hw ?hc
  case hw => w_witness2
  case hc =>
    refine LamX.walk_ofTsE (l := PySem.Challenge.rw_gaprows_k15_whole_alike_or_parted) (n := 63) (k := 205) (x := "_law_script") (CX := fun w => L2.CX (PySem.Challenge.rw_gaprows_k15_whole_alike_or_parted).prog w) rfl (by decide) (by kernel_rfl) ⟨rfl, by decide, by decide⟩ ?F (fun w H s e s' z => ?_)
    · intro w mg fa h Y G hmg0
      obtain ⟨K, KX, c⟩ := Y
      have hmg : mg ("law" : PySem.Str) = some (.ref fa) := by
        have e : (HandSHeadRun.topDef (OpenLaw.row PySem.Challenge.rw_gaprows_k15_whole_alike_or_parted).prog 53).name = ("law" : PySem.Str) := by kernel_rfl
        rw [← e]
        exact hmg0
      exact ⟨K, KX, Gq.law_at (p := Gq.Pk15.pg) (t := Gq.Pk15.t_law) (n := 40) KX c G Gq.Pk15.okD Gq.Pk15.okS Gq.Pk15.bns (List.mem_of_getElem? (i := 33) rfl) rfl hmg fun ns _ _ => Gq.Pk15.hlaw ns⟩
    · obtain ⟨_, _, _, _, _, _, _, _, _, _, _, _, z⟩ := z
      exact z
