import PyProof.Rows.All
import Wide.All
import OpenK.AllK
import Wide.FinOn
import HandS.ForMost
import HandS.Star
import HandS.IsInst
import HandS.Style
import HandS.RevRange
import HandS.StrMore
import HandS.TupAny
import HandS.Flow
import HandS.Zip
import HandS.Deep
import HandS.Conv
import HandS.Set
import HandS.Strs
import KE.SortData
import KE.SortKeyed
import KE.KDictPairs
import HandS.Small
import HandS.More
import KE.DataCmp
import PyProof.TupleOfStr
import HandS.TupMul
import HandS.Iter
import KE.GoesMore
import KE.GoesEnum
import PyProof.EnumMake
import PyProof.StrLaws
import HandS.SetFor
import HandS.HeadHook1
import HandS.HeadHook2
import HandS.ForExc
import HandS.ExcInit
import HandS.ExcField
import HandS.ExcIs
import KE.KExcIs
import HandS.Call
import KE.KStateDown
import HandS.Head0
import HandS.Head1
import HandS.Head2
import HandS.HeadEnd
import PySem.Challenge.RW_greedycuts_k38_whole_pieces
set_option Elab.async false
set_option linter.all false
set_option maxRecDepth 100000
namespace PD
open PySem PySem.Spec PyProof.Rows L2

/-! ### plain data, and how a value of the program bears it -/
inductive Dat where
  | non | bl (b : Bool) | int (i : Int) | str (x : Str) | tup (ds : List Dat) | lst (ds : List Dat) | dk (kvs : List (Key × Dat)) | dt (kvs : List (List Key × Dat)) | ob (c : Nat) (fs : List (Str × Dat)) | strm
/-- a tuple that is known to have no dict of its own -/
def TupAt (H : Hp) (a : Addr) (vs : List V) : Prop := ∃ o : Obj, o.dict = none ∧ H a = some (.frz o (.tup vs))
theorem TupAt.sq {K : PySem.W.Frag} {H : Hp} {a : Addr} {vs : List V} (h : TupAt H a vs) : SqT K H a vs := let ⟨o, _, e⟩ := h; .inl (.inr ⟨o, e⟩)
mutual
inductive Rep (O : Addr → Prop) (ps : Addr) (H : Hp) : V → Dat → Prop
  | non : Rep O ps H .non .non
  | bl (b : Bool) : Rep O ps H (.bl b) (.bl b)
  | int (i : Int) : Rep O ps H (.int i) (.int i)
  | str (x : Str) : x.length ≤ sizeLine → Rep O ps H (.str x) (.str x)
  | tup {a : Addr} {vs : List V} {ds : List Dat} : TupAt H a vs → ¬ O a → vs.length ≤ sizeLine → RepL O ps H vs ds → Rep O ps H (.ref a) (.tup ds)
  | lst {a : Addr} {vs : List V} {ds : List Dat} : H a = some (.lst vs) → ¬ O a → vs.length ≤ sizeLine → RepL O ps H vs ds → Rep O ps H (.ref a) (.lst ds)
  | dk {a : Addr} {vs : List (Key × V)} {ds : List (Key × Dat)} : Rd H a (.dK vs) → ¬ O a → vs.length ≤ sizeLine → RepK O ps H vs ds → Rep O ps H (.ref a) (.dk ds)
  | dt {a : Addr} {o : Obj} {vs : List (List Key × V)} {ds : List (List Key × Dat)} : H a = some (.frz o (.frz o (.dK (vs.map fun p => (p.1.headD (.inl 0), p.2))))) → ¬ O a → vs.length ≤ sizeLine → RepT O ps H vs ds → Rep O ps H (.ref a) (.dt ds)
  | ob {a dx : Addr} {c : Nat} {vs : List V} {fs : List (Str × Dat)} : H a = some (.ins c dx ((fs.map (·.1)).zip vs)) → ¬ O a → RepL O ps H vs (fs.map (·.2)) → Rep O ps H (.ref a) (.ob c fs)
  | strm : Rep O ps H (.ref ps) .strm
inductive RepL (O : Addr → Prop) (ps : Addr) (H : Hp) : List V → List Dat → Prop
  | nil : RepL O ps H [] []
  | cons {v : V} {d : Dat} {vs : List V} {ds : List Dat} : Rep O ps H v d → RepL O ps H vs ds → RepL O ps H (v :: vs) (d :: ds)
inductive RepK (O : Addr → Prop) (ps : Addr) (H : Hp) : List (Key × V) → List (Key × Dat) → Prop
  | nil : RepK O ps H [] []
  | cons {k : Key} {v : V} {d : Dat} {vs : List (Key × V)} {ds : List (Key × Dat)} : Rep O ps H v d → RepK O ps H vs ds → RepK O ps H ((k, v) :: vs) ((k, d) :: ds)
inductive RepT (O : Addr → Prop) (ps : Addr) (H : Hp) : List (List Key × V) → List (List Key × Dat) → Prop
  | nil : RepT O ps H [] []
  | cons {k : List Key} {v : V} {d : Dat} {vs : List (List Key × V)} {ds : List (List Key × Dat)} : Rep O ps H v d → RepT O ps H vs ds → RepT O ps H ((k, v) :: vs) ((k, d) :: ds)
end
def isSq : HO → Prop
  | .lst _ => True
  | .frz _ (.tup _) => True
  | .frz _ (.frz _ _) => True
  | .ins _ _ _ => True
  | _ => False
def isDc : HO → Prop
  | .dK _ => True
  | .dT _ => True
  | _ => False
/-- what is read and not owned stays read and not owned -/
structure Tr (O : Addr → Prop) (H : Hp) (O' : Addr → Prop) (H' : Hp) : Prop where
  sq : ∀ a u, isSq u → ¬ O a → H a = some u → ¬ O' a ∧ H' a = some u
  rd : ∀ a u, isDc u → ¬ O a → Rd H a u → ¬ O' a ∧ Rd H' a u
section
variable {O O' : Addr → Prop} {ps : Addr} {H H' : Hp}
theorem Tr.tup (t : Tr O H O' H') {a : Addr} {vs : List V} (r : TupAt H a vs) (o : ¬ O a) : ¬ O' a ∧ TupAt H' a vs :=
  let ⟨ob, d, e⟩ := r; ⟨(t.sq a (.frz ob (.tup vs)) trivial o e).1, ob, d, (t.sq a (.frz ob (.tup vs)) trivial o e).2⟩
mutual
theorem Rep.tr (t : Tr O H O' H') : ∀ {v : V} {d : Dat}, Rep O ps H v d → Rep O' ps H' v d
  | _, _, .non => .non
  | _, _, .bl b => .bl b
  | _, _, .int i => .int i
  | _, _, .str x h => .str x h
  | _, _, .tup r o z l => .tup (t.tup r o).2 (t.tup r o).1 z (RepL.tr t l)
  | _, _, .lst (vs := vs) r o z l => .lst (t.sq _ (.lst vs) trivial o r).2 (t.sq _ (.lst vs) trivial o r).1 z (RepL.tr t l)
  | _, _, .dk (vs := vs) r o z l => .dk (t.rd _ (.dK vs) trivial o r).2 (t.rd _ (.dK vs) trivial o r).1 z (RepK.tr t l)
  | _, _, .dt (o := ob) (vs := vs) r o z l => .dt (t.sq _ (.frz ob (.frz ob (.dK (vs.map fun p => (p.1.headD (.inl 0), p.2))))) trivial o r).2 (t.sq _ (.frz ob (.frz ob (.dK (vs.map fun p => (p.1.headD (.inl 0), p.2))))) trivial o r).1 z (RepT.tr t l)
  | _, _, .ob (dx := dx) (c := c) (vs := vs) (fs := fs) r o l => .ob (t.sq _ (.ins c dx ((fs.map (·.1)).zip vs)) trivial o r).2 (t.sq _ (.ins c dx ((fs.map (·.1)).zip vs)) trivial o r).1 (RepL.tr t l)
  | _, _, .strm => .strm
theorem RepL.tr (t : Tr O H O' H') : ∀ {vs : List V} {ds : List Dat}, RepL O ps H vs ds → RepL O' ps H' vs ds
  | _, _, .nil => .nil
  | _, _, .cons r l => .cons (Rep.tr t r) (RepL.tr t l)
theorem RepK.tr (t : Tr O H O' H') : ∀ {vs : List (Key × V)} {ds : List (Key × Dat)}, RepK O ps H vs ds → RepK O' ps H' vs ds
  | _, _, .nil => .nil
  | _, _, .cons r l => .cons (Rep.tr t r) (RepK.tr t l)
theorem RepT.tr (t : Tr O H O' H') : ∀ {vs : List (List Key × V)} {ds : List (List Key × Dat)}, RepT O ps H vs ds → RepT O' ps H' vs ds
  | _, _, .nil => .nil
  | _, _, .cons r l => .cons (Rep.tr t r) (RepT.tr t l)
end
theorem RepL.len : ∀ {vs : List V} {ds : List Dat}, RepL O ps H vs ds → vs.length = ds.length
  | _, _, .nil => rfl
  | _, _, .cons _ l => congrArg (· + 1) (RepL.len l)
theorem RepL.get : ∀ {vs : List V} {ds : List Dat} {i : Nat} {d : Dat}, RepL O ps H vs ds → ds[i]? = some d → ∃ v, vs[i]? = some v ∧ Rep O ps H v d
  | _, _, _, _, .nil, e => by simp at e
  | _, _, 0, _, .cons r _, e => by simp at e; subst e; exact ⟨_, rfl, r⟩
  | _, _, i + 1, d, .cons _ l, e => by
    obtain ⟨v, h1, h2⟩ := RepL.get (i := i) (d := d) l (by simpa using e)
    exact ⟨v, by simpa using h1, h2⟩
theorem RepL.app : ∀ {vs ws : List V} {ds es : List Dat}, RepL O ps H vs ds → RepL O ps H ws es → RepL O ps H (vs ++ ws) (ds ++ es)
  | _, _, _, _, .nil, s => s
  | _, _, _, _, .cons r l, s => .cons r (RepL.app l s)
theorem RepL.take : ∀ {vs : List V} {ds : List Dat} (n : Nat), RepL O ps H vs ds → RepL O ps H (vs.take n) (ds.take n)
  | _, _, 0, _ => .nil
  | _, _, _ + 1, .nil => .nil
  | _, _, n + 1, .cons r l => .cons r (RepL.take n l)
theorem RepL.drop : ∀ {vs : List V} {ds : List Dat} (n : Nat), RepL O ps H vs ds → RepL O ps H (vs.drop n) (ds.drop n)
  | _, _, 0, r => r
  | _, _, _ + 1, .nil => .nil
  | _, _, n + 1, .cons _ l => RepL.drop n l
theorem RepL.set {v : V} {d : Dat} (r : Rep O ps H v d) : ∀ {vs : List V} {ds : List Dat} (i : Nat), RepL O ps H vs ds → RepL O ps H (vs.set i v) (ds.set i d)
  | _, _, _, .nil => .nil
  | _, _, 0, .cons _ l => .cons r l
  | _, _, i + 1, .cons q l => .cons q (RepL.set r i l)
theorem RepL.rev : ∀ {vs : List V} {ds : List Dat}, RepL O ps H vs ds → RepL O ps H vs.reverse ds.reverse
  | _, _, .nil => .nil
  | _, _, .cons r l => by rw [List.reverse_cons, List.reverse_cons]; exact (RepL.rev l).app (.cons r .nil)
end
theorem Tr.refl {O : Addr → Prop} {H : Hp} : Tr O H O H := ⟨fun _ _ _ o r => ⟨o, r⟩, fun _ _ _ o r => ⟨o, r⟩⟩
theorem Tr.trans {O O1 O2 : Addr → Prop} {H H1 H2 : Hp} (a : Tr O H O1 H1) (b : Tr O1 H1 O2 H2) : Tr O H O2 H2 :=
  ⟨fun x u q o r => b.sq x u q (a.sq x u q o r).1 (a.sq x u q o r).2, fun x u q o r => b.rd x u q (a.rd x u q o r).1 (a.rd x u q o r).2⟩
theorem Tr.of {O O' : Addr → Prop} {H H' : Hp} (h : ∀ a u, ¬ O a → H a = some u → ¬ O' a ∧ H' a = some u) : Tr O H O' H' :=
  ⟨fun a u _ o r => h a u o r, fun a u _ o r => r.elim (fun e => ⟨(h a _ o e).1, .inl (h a _ o e).2⟩) fun ⟨ob, e⟩ => ⟨(h a _ o e).1, .inr ⟨ob, (h a _ o e).2⟩⟩⟩
/-! ### the stream, owned lists, the state -/
/-- where the stream stands, where its copy of the script -/
structure Fix where
  ps : Addr
  qs : Addr
/-- the script, the stream's cell and its next place -/
structure Sm where
  scr : List Int
  cell : Int
  k : Int
def StrmAt (P : Fix) (H : Hp) (S : Sm) : Prop := H P.ps = some (.lst [.ref P.qs, .int S.cell, .int S.k]) ∧ H P.qs = some (.lst (S.scr.map V.int))
/-- all but the stream is kept -/
def Fr (P : Fix) (H H' : Hp) : Prop := ∀ a o, a ≠ P.ps → H a = some o → H' a = some o
theorem Fr.refl {P : Fix} {H : Hp} : Fr P H H := fun _ _ _ h => h
theorem Fr.trans {P : Fix} {H H1 H2 : Hp} (a : Fr P H H1) (b : Fr P H1 H2) : Fr P H H2 := fun x o n h => b x o n (a x o n h)
theorem Fr.new {P : Fix} {H : Hp} {p : Addr} {o : HO} (h : H p = none) : Fr P H (upd H p o) := fun a u _ e => by
  rw [upd_ne (ne_of_none e h)]
  exact e
theorem StrmAt.new {P : Fix} {H : Hp} {S : Sm} {p : Addr} {o : HO} (s : StrmAt P H S) (h : H p = none) : StrmAt P (upd H p o) S :=
  ⟨by rw [upd_ne (ne_of_none s.1 h)]; exact s.1, by rw [upd_ne (ne_of_none s.2 h)]; exact s.2⟩
theorem Fr.tr {P : Fix} {H H' : Hp} {O : Addr → Prop} (f : Fr P H H') (o : O P.ps) : Tr O H O H' := .of fun a u na h => ⟨na, f a _ (fun e => na (e ▸ o)) h⟩
def Own (O : Addr → Prop) (ps : Addr) (H : Hp) (p : Addr) : Dat → Prop
  | .lst ds => ∃ vs, H p = some (.lst vs) ∧ vs.length ≤ sizeLine ∧ RepL O ps H vs ds
  | .dk ds => ∃ vs, H p = some (.dK vs) ∧ vs.length ≤ sizeLine ∧ RepK O ps H vs ds
  | .dt ds => ∃ o vs, H p = some (.frz o (.frz o (.dK (vs.map fun q => (q.1.headD (.inl 0), q.2))))) ∧ vs.length ≤ sizeLine ∧ RepT O ps H vs ds
  | .ob c fs => ∃ dx vs, H p = some (.ins c dx ((fs.map (·.1)).zip vs)) ∧ RepL O ps H vs (fs.map (·.2))
  | _ => False
theorem Own.mono {O O' : Addr → Prop} {ps p : Addr} {H H' : Hp} {d : Dat} (h : Own O ps H p d) (t : Tr O H O' H') (k : ∀ o, H p = some o → H' p = some o) : Own O' ps H' p d := by
  cases d with
  | lst ds => obtain ⟨vs, e, z, l⟩ := h; exact ⟨vs, k _ e, z, l.tr t⟩
  | dk ds => obtain ⟨vs, e, z, l⟩ := h; exact ⟨vs, k _ e, z, l.tr t⟩
  | dt ds => obtain ⟨o, vs, e, z, l⟩ := h; exact ⟨o, vs, k _ e, z, l.tr t⟩
  | ob c fs => obtain ⟨dx, vs, e, l⟩ := h; exact ⟨dx, vs, k _ e, l.tr t⟩
  | _ => exact h.elim
/-- an owned thing that is not owned any more -/
theorem Own.rep {O : Addr → Prop} {ps p : Addr} {H : Hp} {d : Dat} (h : Own O ps H p d) (n : ¬ O p) : Rep O ps H (.ref p) d := by
  cases d with
  | lst ds => obtain ⟨vs, e, z, l⟩ := h; exact .lst e n z l
  | dk ds => obtain ⟨vs, e, z, l⟩ := h; exact .dk (.inl e) n z l
  | dt ds => obtain ⟨o, vs, e, z, l⟩ := h; exact .dt e n z l
  | ob c fs => obtain ⟨dx, vs, e, l⟩ := h; exact .ob e n l
  | _ => exact h.elim
theorem Own.some {O : Addr → Prop} {ps p : Addr} {H : Hp} {d : Dat} (h : Own O ps H p d) : ∃ o, H p = some o := by
  cases d with
  | lst ds => obtain ⟨vs, e, z, l⟩ := h; exact ⟨_, e⟩
  | dk ds => obtain ⟨vs, e, z, l⟩ := h; exact ⟨_, e⟩
  | dt ds => obtain ⟨o, vs, e, z, l⟩ := h; exact ⟨_, e⟩
  | ob c fs => obtain ⟨dx, vs, e, l⟩ := h; exact ⟨_, e⟩
  | _ => exact h.elim
inductive Slo where
  | no | fz (d : Dat) | ow (d : Dat)
abbrev DEnv := List Slo
/-- what is asked of the heap alone -/
structure HI (O : Addr → Prop) (P : Fix) (H : Hp) (S : Sm) : Prop where
  ops : O P.ps
  nq : ¬ O P.qs
  dom : ∀ a, O a → H a ≠ none
  sm : StrmAt P H S
structure EI (O : Addr → Prop) (P : Fix) (σ : L2.St) (H : Hp) (env : DEnv) (S : Sm) : Prop where
  ops : O P.ps
  nq : ¬ O P.qs
  dom : ∀ a, O a → H a ≠ none
  sm : StrmAt P H S
  len : σ.length = env.length
  fz : ∀ (i : Nat) d, env[i]? = some (.fz d) → ∃ v, σ[i]? = some (some v) ∧ Rep O P.ps H v d
  ow : ∀ (i : Nat) d, env[i]? = some (.ow d) → ∃ p, σ[i]? = some (some (.ref p)) ∧ O p ∧ p ≠ P.ps ∧ Own O P.ps H p d
theorem EI.fr {O : Addr → Prop} {P : Fix} {σ : L2.St} {H H' : Hp} {env : DEnv} {S S' : Sm} (I : EI O P σ H env S) (f : Fr P H H') (s : StrmAt P H' S') : EI O P σ H' env S' where
  ops := I.ops
  nq := I.nq
  dom := fun a o => by
    by_cases e : a = P.ps
    · rw [e, s.1]; simp
    · cases q : H a with
      | none => exact absurd q (I.dom a o)
      | some u => rw [f a u e q]; simp
  sm := s
  len := I.len
  fz := fun i d e => let ⟨v, h1, h2⟩ := I.fz i d e; ⟨v, h1, h2.tr (f.tr I.ops)⟩
  ow := fun i d e => let ⟨p, h1, h2, h3, h4⟩ := I.ow i d e; ⟨p, h1, h2, h3, h4.mono (f.tr I.ops) fun o h => f p o h3 h⟩
theorem EI.hi {O : Addr → Prop} {P : Fix} {σ : L2.St} {H : Hp} {env : DEnv} {S : Sm} (I : EI O P σ H env S) : HI O P H S := ⟨I.ops, I.nq, I.dom, I.sm⟩
theorem HI.fr {O : Addr → Prop} {P : Fix} {H H' : Hp} {S S' : Sm} (I : HI O P H S) (f : Fr P H H') (s : StrmAt P H' S') : HI O P H' S' where
  ops := I.ops
  nq := I.nq
  dom := fun a o => by
    by_cases e : a = P.ps
    · rw [e, s.1]; simp
    · cases q : H a with
      | none => exact absurd q (I.dom a o)
      | some u => rw [f a u e q]; simp
  sm := s
/-- a value that may be an owned thing -/
def RepB (O : Addr → Prop) (P : Fix) (H : Hp) (v : V) (d : Dat) : Prop := Rep O P.ps H v d ∨ ∃ p, v = .ref p ∧ O p ∧ p ≠ P.ps ∧ Own O P.ps H p d
theorem RepB.fr {O : Addr → Prop} {P : Fix} {H H' : Hp} {v : V} {d : Dat} (r : RepB O P H v d) (f : Fr P H H') (o : O P.ps) : RepB O P H' v d :=
  r.elim (fun h => .inl (h.tr (f.tr o))) fun ⟨p, h1, h2, h3, h4⟩ => .inr ⟨p, h1, h2, h3, h4.mono (f.tr o) fun u h => f p u h3 h⟩
abbrev M := DEnv → Sm → Option (Dat × Sm)
abbrev MT := DEnv → Sm → Option (Bool × Sm)
abbrev ML := DEnv → Sm → Option (List Dat × Sm)
def SE (t : TE) (m : M) : Prop := ∀ (O : Addr → Prop) (P : Fix) (σ : L2.St) (H : Hp) (env : DEnv) (S : Sm) (r : Dat × Sm) (Q : VK), EI O P σ H env S → m env S = some r →
  (∀ v H', Fr P H H' → StrmAt P H' r.2 → Rep O P.ps H' v r.1 → Q v H') → t σ H Q
def SB (t : TE) (m : M) : Prop := ∀ (O : Addr → Prop) (P : Fix) (σ : L2.St) (H : Hp) (env : DEnv) (S : Sm) (r : Dat × Sm) (Q : VK), EI O P σ H env S → m env S = some r →
  (∀ v H', Fr P H H' → StrmAt P H' r.2 → RepB O P H' v r.1 → Q v H') → t σ H Q
def ST (t : TT) (m : MT) : Prop := ∀ (O : Addr → Prop) (P : Fix) (σ : L2.St) (H : Hp) (env : DEnv) (S : Sm) (r : Bool × Sm) (Q : Bool → Hp → Prop), EI O P σ H env S → m env S = some r →
  (∀ H', Fr P H H' → StrmAt P H' r.2 → Q r.1 H') → t σ H Q
inductive RepBL (O : Addr → Prop) (P : Fix) (H : Hp) : List V → List Dat → Prop
  | nil : RepBL O P H [] []
  | cons {v : V} {d : Dat} {vs : List V} {ds : List Dat} : RepB O P H v d → RepBL O P H vs ds → RepBL O P H (v :: vs) (d :: ds)
def SA (t : TA) (m : ML) : Prop := ∀ (O : Addr → Prop) (P : Fix) (σ : L2.St) (H : Hp) (env : DEnv) (S : Sm) (r : List Dat × Sm) (Q : List V → Hp → Prop), EI O P σ H env S → m env S = some r →
  (∀ vs H', Fr P H H' → StrmAt P H' r.2 → RepL O P.ps H' vs r.1 → Q vs H') → t σ H Q
def SAB (t : TA) (m : ML) : Prop := ∀ (O : Addr → Prop) (P : Fix) (σ : L2.St) (H : Hp) (env : DEnv) (S : Sm) (r : List Dat × Sm) (Q : List V → Hp → Prop), EI O P σ H env S → m env S = some r →
  (∀ vs H', Fr P H H' → StrmAt P H' r.2 → RepBL O P H' vs r.1 → Q vs H') → t σ H Q
/-- a new list or dict, known to nobody else -/
def SN (t : TE) (m : M) : Prop := ∀ (O : Addr → Prop) (P : Fix) (σ : L2.St) (H : Hp) (env : DEnv) (S : Sm) (r : Dat × Sm) (Q : VK), EI O P σ H env S → m env S = some r →
  (∀ p H', H p = none → p ≠ P.ps → Fr P H H' → StrmAt P H' r.2 → Own (fun a => O a ∨ a = p) P.ps H' p r.1 → Q (.ref p) H') → t σ H Q
structure PDE (X : Cx) (e : Expr) (t : TE) (m : M) : Prop where
  pe : PE X e t
  sem : SE t m
structure PDB (X : Cx) (e : Expr) (t : TE) (m : M) : Prop where
  pe : PE X e t
  sem : SB t m
structure PDN (X : Cx) (e : Expr) (t : TE) (m : M) : Prop where
  pe : PE X e t
  sem : SN t m
structure PDT (X : Cx) (e : Expr) (t : TT) (m : MT) : Prop where
  pt : PT X e t
  sem : ST t m
structure PDA (X : Cx) (es : List Expr) (t : TA) (m : ML) : Prop where
  pa : PA X es t
  sem : SA t m
structure PDAB (X : Cx) (es : List Expr) (t : TA) (m : ML) : Prop where
  pa : PA X es t
  sem : SAB t m
theorem PDE.b {X : Cx} {e : Expr} {t : TE} {m : M} (h : PDE X e t m) : PDB X e t m := ⟨h.pe, fun O P σ H env S r Q I e q => h.sem O P σ H env S r Q I e fun v H' f s x => q v H' f s (.inl x)⟩
theorem PDN.e {X : Cx} {e : Expr} {t : TE} {m : M} (h : PDN X e t m) : PDE X e t m := ⟨h.pe, fun O P σ H env S r Q I e q => h.sem O P σ H env S r Q I e fun p H' n np f s x => q _ H' f s (by
  have np' : ¬ O p := fun o => I.dom p o n
  have t : Tr (fun a => O a ∨ a = p) H' O H' := .of fun a u na r => ⟨fun o => na (.inl o), r⟩
  exact (x.mono t fun o h => h).rep np')⟩
/-! ### tuples laid: the object is told -/
def tTupF (t : TA) : TE := fun σ H Q => t σ H fun xs H1 => xs.length ≤ sizeLine ∧ ∀ (p : Addr) (ob : Obj), H1 p = none → ob.dict = none → Q (.ref p) (upd H1 p (.frz ob (.tup xs)))
theorem TupAt.new {H : Hp} {p : Addr} {ob : Obj} {vs : List V} (d : ob.dict = none) : TupAt (upd H p (.frz ob (.tup vs))) p vs := ⟨ob, d, upd_same⟩
section
variable {X : Cx} {pins : List (Addr × Obj)} {σ : L2.St} {H : Hp} {s : Shared}
theorem laid_tupF {ys : List V} {its : List Value} {Q : VK} {tk : Nat} (I : Inv X pins σ H s) (r : Vals ys its) (z : ys.length ≤ sizeLine) (q : ∀ (p : Addr) (ob : Obj), H p = none → ob.dict = none → Q (.ref p) (upd H p (.frz ob (.tup ys)))) :
    EP X pins σ Q (.ref s.heap.objs.size) { s with heap := s.heap.push { cls := .type "tuple", data := .seq its.toArray }, toks := tk } :=
  ⟨.ref s.heap.objs.size, _, I.laid (t' := tk) (o := .frz { cls := .type "tuple", data := .seq its.toArray } (.tup ys)) (fun b u e => Heap.get?_push_of_some _ e) (Nat.le_refl _) ⟨Heap.get?_push_size _ rfl, z, its, r, IsTup.new _ _⟩, rfl, q _ _ I.fresh rfl⟩
theorem pe_tupF {pos : Pos} {es : List Expr} {t : TA} {x1} (h : PA X es t) : PE X (.Tuple es x1 pos) (tTupF t) := by
  refine ⟨fun pins s σ H Q I hq => wpAny_Tuple_spliced (thn (h.run pos pins s σ H _ I hq) fun us s1 ⟨xs, H1, I1, r, z, q⟩ => ⟨by rw [← r.length]; exact z, ?_⟩)⟩
  exact laid_tupF I1 r z q
def rTupF (K : PySem.W.Frag) : List V → Hp → VK → Prop := fun xs H Q => ∃ p ys, xs = [.ref p] ∧ ((SqL K H p ys ∧ ∀ (l : Addr) (ob : Obj), H l = none → ob.dict = none → Q (.ref l) (upd H l (.frz ob (.tup ys)))) ∨ (SqT K H p ys ∧ Q (.ref p) H))
theorem call_tupF : CallR X (.type "tuple") (rTupF X.K) := by
  intro pins s σ H xs us Q I r h
  obtain ⟨p, ys, rfl, h⟩ := h
  obtain ⟨u, rfl, rx⟩ := vals1 r
  cases rx
  rcases h with ⟨hq, q⟩ | ⟨hq, q⟩
  · obtain ⟨its, r', pl, hz⟩ := I.list hq
    have e := r'.length
    exact call_tuple_list pl.isList (fun h' kp => laid_tupF (I.kept (t' := s.toks) kp) r' hz q) (by simp only [List.size_toArray] <;> omega)
  · obtain ⟨its, r', pl, hz⟩ := I.tuple hq
    exact call_tuple_same pl ⟨.ref p, H, I, rfl, q⟩
def rCatF (K : PySem.W.Frag) : R2 := fun x y H Q => ∃ a b xs ys, x = .ref a ∧ y = .ref b ∧ SqT K H a xs ∧ SqT K H b ys ∧ xs.length + ys.length ≤ sizeLine ∧
  (xs = [] → Q (.ref b) H) ∧ (xs ≠ [] → ys = [] → Q (.ref a) H) ∧ (xs ≠ [] → ys ≠ [] → ∀ (p : Addr) (ob : Obj), H p = none → ob.dict = none → Q (.ref p) (upd H p (.frz ob (.tup (xs ++ ys)))))
theorem op_catF : OpR X (binaryOp .Add) (rCatF X.K) := by
  intro pins s σ H x y v u Q I rx ry h
  obtain ⟨a, b, xs, ys, rfl, rfl, ha, hb, hz, q0, q1, q2⟩ := h
  cases rx
  cases ry
  obtain ⟨is1, r1, p1, _⟩ := I.tuple ha
  obtain ⟨is2, r2, p2, _⟩ := I.tuple hb
  by_cases hx : xs = []
  · subst hx
    cases r1
    exact cat_tup0 p1 p2 ⟨.ref b, H, I, rfl, q0 rfl⟩
  · exact HT.cat_tup p1 p2 (fun z => hx (r1.nil_iff.mp z)) (fun z => ⟨.ref a, H, I, rfl, q1 hx (r2.nil_iff.mp z)⟩) (fun z => laid_tupF I (r1.append r2) (by rw [List.length_append]; exact hz) (q2 hx fun w => z (r2.nil_iff.mpr w))) (by rw [← r1.length, ← r2.length]; exact hz)
def rSlF (K : PySem.W.Frag) : V → Option Int → Option Int → Hp → VK → Prop := fun x lo hi H Q => ∃ a xs, x = .ref a ∧ SqT K H a xs ∧
  (HT.sIx xs.length 0 lo = 0 ∧ HT.sIx xs.length xs.length hi = xs.length → Q (.ref a) H) ∧
  (¬ (HT.sIx xs.length 0 lo = 0 ∧ HT.sIx xs.length xs.length hi = xs.length) → ∀ (p : Addr) (ob : Obj), H p = none → ob.dict = none → Q (.ref p) (upd H p (.frz ob (.tup (cutV xs lo hi)))))
theorem sl_tupF : SlR X (rSlF X.K) := by
  intro pins s σ H x v vl vu lo hi sl Q I rx hs pl pu h
  obtain ⟨a, xs, rfl, hx, q1, q2⟩ := h
  cases rx
  obtain ⟨its, r, ht, hz⟩ := I.tuple hx
  have e : its.toArray.size = xs.length := by rw [List.size_toArray]; exact r.length.symm
  refine ⟨"tuple", _, PyProof.Rows.slot_tuple_getitem.lookup, ht.typeIs, ?_⟩
  by_cases hw : HT.sIx xs.length 0 lo = 0 ∧ HT.sIx xs.length xs.length hi = xs.length
  · exact getItem_tuple_whole ht hs pl pu (by rw [e]; exact hw) ⟨.ref a, H, I, rfl, q1 hw⟩
  · refine HT.getItem_tuple_cut ht hs pl pu (by rw [e]; exact hw) ?_ (by rw [e]; exact hz)
    rw [e]
    exact laid_tupF I ((r.drop _).take _) (Nat.le_trans (cutV_length xs lo hi) hz) (q2 hw)
end
end PD

namespace PD
open PySem PySem.Spec PyProof.Rows L2
/-! ### names, constants -/
def mVar (i : Nat) : M := fun env S => match env[i]? with
  | some (.fz d) => some (d, S)
  | _ => none
def mVarB (i : Nat) : M := fun env S => match env[i]? with
  | some (.fz d) => some (d, S)
  | some (.ow d) => some (d, S)
  | _ => none
def mC (d : Dat) : M := fun _ S => some (d, S)
theorem se_var (i : Nat) : SE (tVar i) (mVar i) := by
  intro O P σ H env S r Q I e q
  unfold mVar at e
  split at e
  · rename_i d h
    cases e
    obtain ⟨v, h1, h2⟩ := I.fz i d h
    exact ⟨v, h1, q v H .refl I.sm h2⟩
  · cases e
theorem sb_var (i : Nat) : SB (tVar i) (mVarB i) := by
  intro O P σ H env S r Q I e q
  unfold mVarB at e
  split at e
  · rename_i d h
    cases e
    obtain ⟨v, h1, h2⟩ := I.fz i d h
    exact ⟨v, h1, q v H .refl I.sm (.inl h2)⟩
  · rename_i d h
    cases e
    obtain ⟨p, h1, h2, h3, h4⟩ := I.ow i d h
    exact ⟨_, h1, q _ H .refl I.sm (.inr ⟨p, rfl, h2, h3, h4⟩)⟩
  · cases e
theorem se_c {v : V} {d : Dat} (h : ∀ O ps H, Rep O ps H v d) : SE (tC v) (mC d) := by
  intro O P σ H env S r Q I e q
  cases e
  exact q v H .refl I.sm (h _ _ _)
section
variable {X : Cx} {pos : Pos} {x : Str}
theorem pd_var (i : Nat) (hN : X.N[i]? = some x := by rfl) (hv : Vis X.env.scope x := by first | exact Or.inl rfl | exact Or.inr (Or.inl rfl) | exact Or.inr (Or.inr rfl)) (hd : (x == ("__debug__" : Str)) = false := by decide)
    (hcd : (x == ("__classdict__" : Str)) = false := by decide) : PDE X (.Name x pos) (tVar i) (mVar i) := ⟨pe_var hN hv hd hcd, se_var i⟩
theorem pb_var (i : Nat) (hN : X.N[i]? = some x := by rfl) (hv : Vis X.env.scope x := by first | exact Or.inl rfl | exact Or.inr (Or.inl rfl) | exact Or.inr (Or.inr rfl)) (hd : (x == ("__debug__" : Str)) = false := by decide)
    (hcd : (x == ("__classdict__" : Str)) = false := by decide) : PDB X (.Name x pos) (tVar i) (mVarB i) := ⟨pe_var hN hv hd hcd, sb_var i⟩
theorem pd_int {i j} : PDE X (.Constant (.int i) j pos) (tC (.int i)) (mC (.int i)) := ⟨pe_int, se_c fun _ _ _ => .int i⟩
theorem pd_bl {i j} : PDE X (.Constant (.bool i) j pos) (tC (.bl i)) (mC (.bl i)) := ⟨pe_bl, se_c fun _ _ _ => .bl i⟩
theorem pd_non {j} : PDE X (.Constant .none j pos) (tC .non) (mC .non) := ⟨pe_non, se_c fun _ _ _ => .non⟩
theorem pd_str {i : Str} {j} (h : decide (i.length ≤ 1000) = true := by decide +kernel) : PDE X (.Constant (.str i) j pos) (tC (.str i)) (mC (.str i)) :=
  ⟨pe_str, se_c fun _ _ _ => .str i (Nat.le_trans (of_decide_eq_true h) (by decide))⟩
end
/-! ### operators of two values -/
def R2S (r : R2) (g : Dat → Dat → Option Dat) : Prop := ∀ (O : Addr → Prop) (P : Fix) (H : Hp) (S : Sm) (x y : V) (d e z : Dat) (Q : VK), HI O P H S → RepB O P H x d → RepB O P H y e → g d e = some z →
  (∀ v H', Fr P H H' → StrmAt P H' S → Rep O P.ps H' v z → Q v H') → r x y H Q
def R2N (r : R2) (g : Dat → Dat → Option Dat) : Prop := ∀ (O : Addr → Prop) (P : Fix) (H : Hp) (S : Sm) (x y : V) (d e z : Dat) (Q : VK), HI O P H S → RepB O P H x d → RepB O P H y e → g d e = some z →
  (∀ p H', H p = none → p ≠ P.ps → Fr P H H' → StrmAt P H' S → Own (fun a => O a ∨ a = p) P.ps H' p z → Q (.ref p) H') → r x y H Q
structure PDO (X : Cx) (f : Value → Value → Sem Value) (r : R2) (g : Dat → Dat → Option Dat) : Prop where
  op : OpR X f r
  sem : R2S r g
def rOr (r r' : R2) : R2 := fun x y H Q => r x y H Q ∨ r' x y H Q
theorem OpR.or {X : Cx} {f : Value → Value → Sem Value} {r r' : R2} (h : OpR X f r) (h' : OpR X f r') : OpR X f (rOr r r') := fun pins s σ H x y v u Q I rx ry q => q.elim (h pins s σ H x y v u Q I rx ry) (h' pins s σ H x y v u Q I rx ry)
def gOr (g g' : Dat → Dat → Option Dat) : Dat → Dat → Option Dat := fun d e => match g d e with
  | some z => some z
  | none => g' d e
theorem R2S.or {r r' : R2} {g g' : Dat → Dat → Option Dat} (h : R2S r g) (h' : R2S r' g') : R2S (rOr r r') (gOr g g') := fun O P H S x y d e z Q I rx ry q k => by
  unfold gOr at q
  split at q
  · cases q; exact .inl (h O P H S x y d e _ Q I rx ry (by assumption) k)
  · exact .inr (h' O P H S x y d e z Q I rx ry q k)
theorem PDO.or {X : Cx} {f : Value → Value → Sem Value} {r r' : R2} {g g' : Dat → Dat → Option Dat} (h : PDO X f r g) (h' : PDO X f r' g') : PDO X f (rOr r r') (gOr g g') := ⟨h.op.or h'.op, h.sem.or h'.sem⟩
def m2 (g : Dat → Dat → Option Dat) (a b : M) : M := fun env S => (a env S).bind fun x => (b env x.2).bind fun y => (g x.1 y.1).map fun z => (z, y.2)
theorem RepB.int {O : Addr → Prop} {P : Fix} {H : Hp} {v : V} {i : Int} (r : RepB O P H v (.int i)) : v = .int i := by
  rcases r with r | ⟨p, rfl, _, _, o⟩
  · cases r; rfl
  · exact (show False from o).elim
theorem RepB.bl {O : Addr → Prop} {P : Fix} {H : Hp} {v : V} {i : Bool} (r : RepB O P H v (.bl i)) : v = .bl i := by
  rcases r with r | ⟨p, rfl, _, _, o⟩
  · cases r; rfl
  · exact (show False from o).elim
theorem RepB.non {O : Addr → Prop} {P : Fix} {H : Hp} {v : V} (r : RepB O P H v .non) : v = .non := by
  rcases r with r | ⟨p, rfl, _, _, o⟩
  · cases r; rfl
  · exact (show False from o).elim
theorem RepB.str {O : Addr → Prop} {P : Fix} {H : Hp} {v : V} {x : Str} (r : RepB O P H v (.str x)) : v = .str x ∧ x.length ≤ sizeLine := by
  rcases r with r | ⟨p, rfl, _, _, o⟩
  · cases r; exact ⟨rfl, by assumption⟩
  · exact (show False from o).elim
theorem RepB.tup {O : Addr → Prop} {P : Fix} {H : Hp} {v : V} {ds : List Dat} (r : RepB O P H v (.tup ds)) : ∃ a vs, v = .ref a ∧ TupAt H a vs ∧ vs.length ≤ sizeLine ∧ RepL O P.ps H vs ds ∧ ¬ O a := by
  rcases r with r | ⟨p, rfl, _, _, o⟩
  · cases r; exact ⟨_, _, rfl, by assumption, by assumption, by assumption, by assumption⟩
  · exact (show False from o).elim
theorem RepB.lst {O : Addr → Prop} {P : Fix} {H : Hp} {v : V} {ds : List Dat} (o : O P.ps) (r : RepB O P H v (.lst ds)) : ∃ a vs, v = .ref a ∧ H a = some (.lst vs) ∧ vs.length ≤ sizeLine ∧ RepL O P.ps H vs ds ∧ a ≠ P.ps := by
  rcases r with r | ⟨p, rfl, _, np, o'⟩
  · cases r with
    | lst h n z l => exact ⟨_, _, rfl, h, z, l, fun e => n (e ▸ o)⟩
  · obtain ⟨vs, h, z, l⟩ := o'
    exact ⟨p, vs, rfl, h, z, l, np⟩
theorem se_op {r : R2} {g : Dat → Dat → Option Dat} {ta tb : TE} {ma mb : M} (hr : R2S r g) (ha : SB ta ma) (hb : SB tb mb) : SE (tOp r ta tb) (m2 g ma mb) := by
  intro O P σ H env S w Q I e q
  unfold m2 at e
  cases ea : ma env S with
  | none => rw [ea] at e; cases e
  | some xa =>
    rw [ea] at e
    simp only [Option.bind_some] at e
    cases eb : mb env xa.2 with
    | none => rw [eb] at e; cases e
    | some xb =>
      rw [eb] at e
      simp only [Option.bind_some] at e
      cases eg : g xa.1 xb.1 with
      | none => rw [eg] at e; cases e
      | some z =>
        rw [eg] at e
        cases e
        refine ha O P σ H env S xa _ I ea fun v1 H1 f1 s1 r1 => ?_
        have I1 := I.fr f1 s1
        refine hb O P σ H1 env xa.2 xb _ I1 eb fun v2 H2 f2 s2 r2 => ?_
        have I2 := I1.fr f2 s2
        exact hr O P H2 xb.2 v1 v2 xa.1 xb.1 z Q I2.hi (r1.fr f2 I.ops) r2 eg fun v H' f s x => q v H' ((f1.trans f2).trans f) s x
theorem sn_op {r : R2} {g : Dat → Dat → Option Dat} {ta tb : TE} {ma mb : M} (hr : R2N r g) (ha : SB ta ma) (hb : SB tb mb) : SN (tOp r ta tb) (m2 g ma mb) := by
  intro O P σ H env S w Q I e q
  unfold m2 at e
  cases ea : ma env S with
  | none => rw [ea] at e; cases e
  | some xa =>
    rw [ea] at e
    simp only [Option.bind_some] at e
    cases eb : mb env xa.2 with
    | none => rw [eb] at e; cases e
    | some xb =>
      rw [eb] at e
      simp only [Option.bind_some] at e
      cases eg : g xa.1 xb.1 with
      | none => rw [eg] at e; cases e
      | some z =>
        rw [eg] at e
        cases e
        refine ha O P σ H env S xa _ I ea fun v1 H1 f1 s1 r1 => ?_
        have I1 := I.fr f1 s1
        refine hb O P σ H1 env xa.2 xb _ I1 eb fun v2 H2 f2 s2 r2 => ?_
        have I2 := I1.fr f2 s2
        refine hr O P H2 xb.2 v1 v2 xa.1 xb.1 z Q I2.hi (r1.fr f2 I.ops) r2 eg fun p H' n np f s x => q p H' ?_ np ((f1.trans f2).trans f) s x
        cases h : H p with
        | none => rfl
        | some o => exact absurd ((f1.trans f2) p o np h) (by rw [n]; simp)
section
variable {X : Cx} {pos : Pos} {a b : Expr} {ta tb : TE} {ma mb : M} {r : R2} {g : Dat → Dat → Option Dat}
theorem pd_op {op : Operator} (ho : PDO X (binaryOp op) r g) (ha : PDB X a ta ma) (hb : PDB X b tb mb) : PDE X (.BinOp a op b pos) (tOp r ta tb) (m2 g ma mb) := ⟨pe_op ho.op ha.pe hb.pe, se_op ho.sem ha.sem hb.sem⟩
theorem pd_cmp {op : CmpOp} (ho : PDO X (compareOp op) r g) (ha : PDB X a ta ma) (hb : PDB X b tb mb) (hm : behindInMarks op b = false) : PDE X (.Compare a [op] [b] pos) (tOp r ta tb) (m2 g ma mb) := ⟨pe_cmpR ho.op ha.pe hb.pe hm, se_op ho.sem ha.sem hb.sem⟩
end
/-! ### ints -/
def gI (C : Int → Int → Bool) (f : Int → Int → Dat) : Dat → Dat → Option Dat
  | .int i, .int j => if C i j = true then some (f i j) else none
  | _, _ => none
theorem r2_I {C : Int → Int → Prop} {Cb : Int → Int → Bool} {f : Int → Int → V} {fd : Int → Int → Dat} (hC : ∀ i j, Cb i j = true → C i j) (hf : ∀ O ps H i j, Rep O ps H (f i j) (fd i j)) : R2S (rI C f) (gI Cb fd) := by
  intro O P H S x y d e z Q I rx ry eg q
  unfold gI at eg
  split at eg
  · split at eg
    · cases eg
      cases rx.int
      cases ry.int
      exact ⟨_, _, rfl, rfl, hC _ _ (by assumption), q _ H .refl I.sm (hf _ _ _ _ _)⟩
    · cases eg
  · cases eg
def gI0 (f : Int → Int → Dat) : Dat → Dat → Option Dat
  | .int i, .int j => some (f i j)
  | _, _ => none
theorem r2_I0 {f : Int → Int → V} {fd : Int → Int → Dat} (hf : ∀ O ps H i j, Rep O ps H (f i j) (fd i j)) : R2S (rI0 f) (gI0 fd) := by
  intro O P H S x y d e z Q I rx ry eg q
  unfold gI0 at eg
  split at eg
  · cases eg
    cases rx.int
    cases ry.int
    exact ⟨_, _, rfl, rfl, q _ H .refl I.sm (hf _ _ _ _ _)⟩
  · cases eg
section
variable {X : Cx}
theorem po_addI : PDO X (binaryOp .Add) (rI0 fun i j => .int (i + j)) (gI0 fun i j => .int (i + j)) := ⟨op_add, r2_I0 fun _ _ _ _ _ => .int _⟩
theorem po_sub : PDO X (binaryOp .Sub) (rI0 fun i j => .int (i - j)) (gI0 fun i j => .int (i - j)) := ⟨op_sub, r2_I0 fun _ _ _ _ _ => .int _⟩
def cMul (i j : Int) : Bool := (decide (-(2 ^ 64) < i) && decide (i < 2 ^ 64)) || (decide (-(2 ^ 64) < j) && decide (j < 2 ^ 64))
theorem po_mulI : PDO X (binaryOp .Mult) (rI CMul fun i j => .int (i * j)) (gI cMul fun i j => .int (i * j)) := ⟨op_mul, r2_I (fun i j h => by
  unfold cMul at h
  simp only [Bool.or_eq_true, Bool.and_eq_true, decide_eq_true_eq] at h
  exact h) fun _ _ _ _ _ => .int _⟩
def cDiv (i j : Int) : Bool := decide (0 < j) && decide (j < 1073741824)
theorem po_fdiv : PDO X (binaryOp .FloorDiv) (rI CDiv fun i j => .int (i / j)) (gI cDiv fun i j => .int (i / j)) := ⟨op_fdiv, r2_I (fun i j h => by
  unfold cDiv at h
  simp only [Bool.and_eq_true, decide_eq_true_eq] at h
  exact h) fun _ _ _ _ _ => .int _⟩
theorem po_mod : PDO X (binaryOp .Mod) (rI (fun _ j => 0 < j) fun i j => .int (i % j)) (gI (fun _ j => decide (0 < j)) fun i j => .int (i % j)) := ⟨op_mod, r2_I (fun i j h => of_decide_eq_true h) fun _ _ _ _ _ => .int _⟩
def cPow (i j : Int) : Bool := decide (0 ≤ j) && (decide (j ≤ 1000000) && decide (i.natAbs < 2 ^ 64))
theorem po_pow : PDO X (binaryOp .Pow) (rI CPow fun i j => .int (i ^ j.toNat)) (gI cPow fun i j => .int (i ^ j.toNat)) := ⟨op_pow, r2_I (fun i j h => by
  unfold cPow at h
  simp only [Bool.and_eq_true, decide_eq_true_eq] at h
  exact h) fun _ _ _ _ _ => .int _⟩
end
/-! ### sums of texts, lists, tuples -/
def gAddS : Dat → Dat → Option Dat
  | .str x, .str y => if x.length + y.length ≤ sizeLine then some (.str (x ++ y)) else none
  | _, _ => none
theorem str_len (x y : Str) : (x ++ y).length = x.length + y.length := by
  show (x.cps ++ y.cps).size = x.cps.size + y.cps.size
  exact Array.size_append
theorem r2_addS : R2S (fun x y H Q => ∃ i j, x = .str i ∧ y = .str j ∧ i.length + j.length ≤ sizeLine ∧ Q (.str (i ++ j)) H) gAddS := by
  intro O P H S x y d e z Q I rx ry eg q
  unfold gAddS at eg
  split at eg
  · split at eg
    · rename_i h
      cases eg
      obtain ⟨rfl, _⟩ := rx.str
      obtain ⟨rfl, _⟩ := ry.str
      exact ⟨_, _, rfl, rfl, h, q _ H .refl I.sm (.str _ (by rw [str_len]; exact h))⟩
    · cases eg
  · cases eg
def gCat : Dat → Dat → Option Dat
  | .lst xs, .lst ys => if xs.length + ys.length ≤ sizeLine then some (.lst (xs ++ ys)) else none
  | _, _ => none
theorem own_new {O : Addr → Prop} {P : Fix} {H : Hp} {p : Addr} {vs : List V} {ds : List Dat} (n : H p = none) (z : vs.length ≤ sizeLine) (l : RepL O P.ps H vs ds) : Own (fun a => O a ∨ a = p) P.ps (upd H p (.lst vs)) p (.lst ds) :=
  ⟨vs, upd_same, z, l.tr (.of fun a u na h => ⟨fun o => o.elim na fun e => absurd (e ▸ h) (by rw [n]; simp), (upd_ne (ne_of_none h n)).trans h⟩)⟩
theorem ne_ps {P : Fix} {H : Hp} {S : Sm} {p : Addr} (s : StrmAt P H S) (n : H p = none) : p ≠ P.ps := fun e => by rw [e, s.1] at n; cases n
theorem r2_cat : R2N rCat gCat := by
  intro O P H S x y d e z Q I rx ry eg q
  unfold gCat at eg
  split at eg
  · split at eg
    · rename_i h
      cases eg
      obtain ⟨a, xs, rfl, h1, z1, l1, _⟩ := rx.lst I.ops
      obtain ⟨b, ys, rfl, h2, z2, l2, _⟩ := ry.lst I.ops
      have hz : xs.length + ys.length ≤ sizeLine := by rw [l1.len, l2.len]; exact h
      exact ⟨_, _, _, _, rfl, rfl, h1, h2, hz, fun p n => q p _ n (ne_ps I.sm n) (.new n) (I.sm.new n) (own_new n (by rw [List.length_append]; exact hz) (l1.app l2))⟩
    · cases eg
  · cases eg
end PD

namespace PD
open PySem PySem.Spec PyProof.Rows L2
/-! ### == of data -/
mutual
def toPy : Dat → Option PyData
  | .non => some .none
  | .bl b => some (.bool b)
  | .int i => some (.int i)
  | .str x => some (.str x)
  | .tup ds => match toPyL ds with
    | some xs => some (.tuple xs)
    | none => none
  | .lst ds => match toPyL ds with
    | some xs => some (.list xs)
    | none => none
  | _ => none
def toPyL : List Dat → Option (List PyData)
  | [] => some []
  | d :: ds => match toPy d, toPyL ds with
    | some x, some xs => some (x :: xs)
    | _, _ => none
end
mutual
theorem Rep.dp {K : PySem.W.Frag} {O : Addr → Prop} {ps : Addr} {H : Hp} : ∀ {v : V} {d : Dat} {pd : PyData}, Rep O ps H v d → toPy d = some pd → Dp K H v pd
  | _, _, pd, .non, e => by simp only [toPy, Option.some.injEq] at e; subst e; exact .non
  | _, _, pd, .bl b, e => by simp only [toPy, Option.some.injEq] at e; subst e; exact .bl b
  | _, _, pd, .int b, e => by simp only [toPy, Option.some.injEq] at e; subst e; exact .int b
  | _, _, pd, .str b _, e => by simp only [toPy, Option.some.injEq] at e; subst e; exact .str b
  | _, _, pd, .tup (ds := ds) h _ _ l, e => by
    unfold toPy at e
    split at e
    · cases e; exact .tup h.sq (RepL.dp l (by assumption))
    · cases e
  | _, _, pd, .lst (ds := ds) h _ _ l, e => by
    unfold toPy at e
    split at e
    · cases e; exact .lst (SqL.of h) (RepL.dp l (by assumption))
    · cases e
  | _, _, pd, .dk _ _ _ _, e => by simp [toPy] at e
  | _, _, pd, .dt _ _ _ _, e => by simp [toPy] at e
  | _, _, pd, .ob _ _ _, e => by simp [toPy] at e
  | _, _, pd, .strm, e => by simp [toPy] at e
theorem RepL.dp {K : PySem.W.Frag} {O : Addr → Prop} {ps : Addr} {H : Hp} : ∀ {v : List V} {d : List Dat} {pd : List PyData}, RepL O ps H v d → toPyL d = some pd → DpAll K H v pd
  | _, _, pd, .nil, e => by simp only [toPyL, Option.some.injEq] at e; subst e; exact .nil
  | _, _, pd, .cons r l, e => by
    unfold toPyL at e
    split at e
    · cases e; exact .cons (Rep.dp r (by assumption)) (RepL.dp l (by assumption))
    · cases e
end
theorem RepB.dp {K : PySem.W.Frag} {O : Addr → Prop} {P : Fix} {H : Hp} {v : V} {d : Dat} {pd : PyData} (r : RepB O P H v d) (e : toPy d = some pd) : Dp K H v pd := by
  rcases r with r | ⟨p, rfl, _, _, o⟩
  · exact r.dp e
  · cases d with
    | lst ds =>
      obtain ⟨vs, h, z, l⟩ := o
      unfold toPy at e
      split at e
      · cases e; exact .lst (SqL.of h) (RepL.dp l (by assumption))
      · cases e
    | dk ds => simp [toPy] at e
    | dt ds => simp [toPy] at e
    | ob c fs => simp [toPy] at e
    | _ => exact (show False from o).elim
def gEq (neg : Bool) : Dat → Dat → Option Dat := fun d e => match toPy d, toPy e with
  | some x, some y => if (SeqAt.shaped x && SeqAt.shaped y) = true then some (.bl (xor neg (PyData.eqv x y))) else none
  | _, _ => none
theorem r2_eqD {K : PySem.W.Frag} : R2S (rEqD K) (gEq false) := by
  intro O P H S x y d e z Q I rx ry eg q
  unfold gEq at eg
  split at eg
  · rename_i px py e1 e2
    split at eg
    · rename_i h
      rw [Bool.and_eq_true] at h
      cases eg
      rw [Bool.false_xor] at q
      exact ⟨px, py, rx.dp e1, ry.dp e2, h.1, h.2, q _ H .refl I.sm (.bl _)⟩
    · cases eg
  · cases eg
theorem r2_neD {K : PySem.W.Frag} : R2S (rNeD K) (gEq true) := by
  intro O P H S x y d e z Q I rx ry eg q
  unfold gEq at eg
  split at eg
  · rename_i px py e1 e2
    split at eg
    · rename_i h
      rw [Bool.and_eq_true] at h
      cases eg
      rw [Bool.true_xor] at q
      exact ⟨px, py, rx.dp e1, ry.dp e2, h.1, h.2, q _ H .refl I.sm (.bl _)⟩
    · cases eg
  · cases eg
section
variable {X : Cx}
theorem po_eq {k : Nat} (hr : Room k X.A) : PDO X (compareOp .Eq) (rEqD X.K) (gEq false) := ⟨op_eqD hr.units, r2_eqD⟩
theorem po_ne {k : Nat} (hr : Room k X.A) : PDO X (compareOp .NotEq) (rNeD X.K) (gEq true) := ⟨op_neD hr.units, r2_neD⟩
/-- order: ints, texts -/
def gStr (f : List Nat → List Nat → Bool) : Dat → Dat → Option Dat
  | .str x, .str y => some (.bl (f x.cps.toList y.cps.toList))
  | _, _ => none
theorem r2_str {f : List Nat → List Nat → Bool} : R2S (fun x y H Q => ∃ i j, x = .str i ∧ y = .str j ∧ Q (.bl (f i.cps.toList j.cps.toList)) H) (gStr f) := by
  intro O P H S x y d e z Q I rx ry eg q
  unfold gStr at eg
  split at eg
  · cases eg
    obtain ⟨rfl, _⟩ := rx.str
    obtain ⟨rfl, _⟩ := ry.str
    exact ⟨_, _, rfl, rfl, q _ H .refl I.sm (.bl _)⟩
  · cases eg
abbrev gLt := gOr (gI0 fun i j => .bl (decide (i < j))) (gStr fun x y => decide (x < y))
abbrev gLe := gOr (gI0 fun i j => .bl (decide (i ≤ j))) (gStr fun x y => !decide (y < x))
abbrev gGt := gOr (gI0 fun i j => .bl (decide (j < i))) (gStr fun x y => decide (y < x))
abbrev gGe := gOr (gI0 fun i j => .bl (decide (j ≤ i))) (gStr fun x y => !decide (x < y))
theorem po_lt : PDO X (compareOp .Lt) (rOr (rI0 fun i j => .bl (decide (i < j))) (fun x y H Q => ∃ i j, x = .str i ∧ y = .str j ∧ Q (.bl (decide (i.cps.toList < j.cps.toList))) H)) gLt :=
  ⟨op_lt.or op_lt_str, (r2_I0 fun _ _ _ _ _ => .bl _).or (r2_str (f := fun x y => decide (x < y)))⟩
theorem po_le : PDO X (compareOp .LtE) (rOr (rI0 fun i j => .bl (decide (i ≤ j))) (fun x y H Q => ∃ i j, x = .str i ∧ y = .str j ∧ Q (.bl (!decide (j.cps.toList < i.cps.toList))) H)) gLe :=
  ⟨op_le.or op_le_str, (r2_I0 fun _ _ _ _ _ => .bl _).or (r2_str (f := fun x y => !decide (y < x)))⟩
theorem po_gt : PDO X (compareOp .Gt) (rOr (rI0 fun i j => .bl (decide (j < i))) (fun x y H Q => ∃ i j, x = .str i ∧ y = .str j ∧ Q (.bl (decide (j.cps.toList < i.cps.toList))) H)) gGt :=
  ⟨op_gt.or op_gt_str, (r2_I0 fun _ _ _ _ _ => .bl _).or (r2_str (f := fun x y => decide (y < x)))⟩
theorem po_ge : PDO X (compareOp .GtE) (rOr (rI0 fun i j => .bl (decide (j ≤ i))) (fun x y H Q => ∃ i j, x = .str i ∧ y = .str j ∧ Q (.bl (!decide (i.cps.toList < j.cps.toList))) H)) gGe :=
  ⟨op_ge.or op_ge_str, (r2_I0 fun _ _ _ _ _ => .bl _).or (r2_str (f := fun x y => !decide (x < y)))⟩
/-- is, is not: None, bools -/
def Dat.isNon : Dat → Bool
  | .non => true
  | _ => false
def gIsN (neg : Bool) : Dat → Dat → Option Dat
  | d, .non => some (.bl (xor neg d.isNon))
  | _, _ => none
theorem RepB.isNon {O : Addr → Prop} {P : Fix} {H : Hp} {v : V} {d : Dat} (r : RepB O P H v d) : decide (v = .non) = d.isNon := by
  rcases r with r | ⟨p, rfl, _, _, o⟩
  · cases r <;> rfl
  · cases d <;> first | rfl | exact (show False from o).elim
def gIsB (neg : Bool) : Dat → Dat → Option Dat
  | .bl a, .bl b => some (.bl (xor neg (decide (a = b))))
  | _, _ => none
theorem po_is : PDO X (compareOp .Is) (rOr (fun x y H Q => y = .non ∧ Q (.bl (decide (x = .non))) H) rIsB) (gOr (gIsN false) (gIsB false)) := by
  refine ⟨op_isN.or op_isBl, R2S.or ?_ ?_⟩
  · intro O P H S x y d e z Q I rx ry eg q
    unfold gIsN at eg
    split at eg
    · cases eg
      exact ⟨ry.non, by rw [rx.isNon]; rw [Bool.false_xor] at q; exact q _ H .refl I.sm (.bl _)⟩
    · cases eg
  · intro O P H S x y d e z Q I rx ry eg q
    unfold gIsB at eg
    split at eg
    · cases eg
      rw [Bool.false_xor] at q
      exact ⟨_, _, rx.bl, ry.bl, q _ H .refl I.sm (.bl _)⟩
    · cases eg
theorem po_isnot : PDO X (compareOp .IsNot) (rOr (fun x y H Q => y = .non ∧ Q (.bl (!decide (x = .non))) H) rNotB) (gOr (gIsN true) (gIsB true)) := by
  refine ⟨op_notN.or op_notBl, R2S.or ?_ ?_⟩
  · intro O P H S x y d e z Q I rx ry eg q
    unfold gIsN at eg
    split at eg
    · cases eg
      exact ⟨ry.non, by rw [rx.isNon]; rw [Bool.true_xor] at q; exact q _ H .refl I.sm (.bl _)⟩
    · cases eg
  · intro O P H S x y d e z Q I rx ry eg q
    unfold gIsB at eg
    split at eg
    · cases eg
      rw [Bool.true_xor] at q
      exact ⟨_, _, rx.bl, ry.bl, q _ H .refl I.sm (.bl _)⟩
    · cases eg
end
/-! ### tests -/
def mTest (m : M) : MT := fun env S => (m env S).bind fun r => match r.1 with
  | .bl b => some (b, r.2)
  | _ => none
theorem st_test {t : TE} {m : M} (h : SE t m) : ST (tTest t) (mTest m) := by
  intro O P σ H env S r Q I e q
  unfold mTest at e
  cases em : m env S with
  | none => rw [em] at e; cases e
  | some x =>
    rw [em] at e
    simp only [Option.bind_some] at e
    split at e
    · rename_i b hb
      cases e
      refine h O P σ H env S x _ I em fun v H' f s rx => ?_
      rw [hb] at rx
      cases rx
      exact ⟨b, rfl, q H' f s⟩
    · cases e
/-- a value's truth -/
def dTru : Dat → Option Bool
  | .non => some false
  | .bl b => some b
  | .int i => some (i != 0)
  | .str x => some ((x.length : Int) != 0)
  | .tup ds => some (!ds.isEmpty)
  | .lst ds => some (!ds.isEmpty)
  | _ => none
theorem emp_of {α β : Type} {xs : List α} {ys : List β} (h : xs.length = ys.length) : (!xs.isEmpty) = !ys.isEmpty := by
  cases xs <;> cases ys <;> first | rfl | simp at h
theorem RepB.tru {K : PySem.W.Frag} {O : Addr → Prop} {P : Fix} {H : Hp} {v : V} {d : Dat} {b : Bool} (o : O P.ps) (r : RepB O P H v d) (e : dTru d = some b) : TruV K v H b := by
  cases d with
  | non => cases r.non; cases e; rfl
  | bl _ => cases r.bl; cases e; rfl
  | int _ => cases r.int; cases e; rfl
  | str _ => obtain ⟨rfl, z⟩ := r.str; cases e; exact ⟨z, rfl⟩
  | tup ds =>
    obtain ⟨a, vs, rfl, h, z, l, _⟩ := r.tup
    cases e
    exact .inr (.inl ⟨vs, h.sq, (emp_of l.len).symm⟩)
  | lst ds =>
    obtain ⟨a, vs, rfl, h, z, l, _⟩ := r.lst o
    cases e
    exact .inl ⟨vs, SqL.of h, (emp_of l.len).symm⟩
  | _ => cases e
def mTru (m : M) : MT := fun env S => (m env S).bind fun r => (dTru r.1).map fun b => (b, r.2)
theorem st_tru {K : PySem.W.Frag} {t : TE} {m : M} (h : SB t m) : ST (fun σ H Q => t σ H fun x H' => ∃ k, TruV K x H' k ∧ Q k H') (mTru m) := by
  intro O P σ H env S r Q I e q
  unfold mTru at e
  cases em : m env S with
  | none => rw [em] at e; cases e
  | some x =>
    rw [em] at e
    simp only [Option.bind_some] at e
    cases eb : dTru x.1 with
    | none => rw [eb] at e; cases e
    | some b =>
      rw [eb] at e
      cases e
      exact h O P σ H env S x _ I em fun v H' f s rx => ⟨b, rx.tru I.ops eb, q H' f s⟩
def mNotT (m : MT) : MT := fun env S => (m env S).map fun r => (!r.1, r.2)
def mAndT (a b : MT) : MT := fun env S => (a env S).bind fun r => if r.1 = true then b env r.2 else some (false, r.2)
def mOrT (a b : MT) : MT := fun env S => (a env S).bind fun r => if r.1 = true then some (true, r.2) else b env r.2
theorem st_not {t : TT} {m : MT} (h : ST t m) : ST (tNot t) (mNotT m) := by
  intro O P σ H env S r Q I e q
  unfold mNotT at e
  cases em : m env S with
  | none => rw [em] at e; cases e
  | some x =>
    rw [em] at e
    cases e
    exact h O P σ H env S x _ I em fun H' f s => q H' f s
theorem st_and {t u : TT} {a b : MT} (h1 : ST t a) (h2 : ST u b) : ST (tAnd t u) (mAndT a b) := by
  intro O P σ H env S r Q I e q
  unfold mAndT at e
  cases em : a env S with
  | none => rw [em] at e; cases e
  | some x =>
    rw [em] at e
    simp only [Option.bind_some] at e
    refine h1 O P σ H env S x _ I em fun H' f s => ?_
    split
    · rename_i h
      rw [if_pos h] at e
      exact h2 O P σ H' env x.2 r _ (I.fr f s) e fun H2 f2 s2 => q H2 (f.trans f2) s2
    · rename_i h
      rw [if_neg h] at e
      cases e
      exact q H' f s
theorem st_or {t u : TT} {a b : MT} (h1 : ST t a) (h2 : ST u b) : ST (tOr t u) (mOrT a b) := by
  intro O P σ H env S r Q I e q
  unfold mOrT at e
  cases em : a env S with
  | none => rw [em] at e; cases e
  | some x =>
    rw [em] at e
    simp only [Option.bind_some] at e
    refine h1 O P σ H env S x _ I em fun H' f s => ?_
    split
    · rename_i h
      rw [if_pos h] at e
      cases e
      exact q H' f s
    · rename_i h
      rw [if_neg h] at e
      exact h2 O P σ H' env x.2 r _ (I.fr f s) e fun H2 f2 s2 => q H2 (f.trans f2) s2
structure PDW (X : Cx) (e : Expr) (t : TT) (m : MT) : Prop where
  pw : PW X e t
  sem : ST t m
def mAndV (a b : M) : M := fun env S => (a env S).bind fun r => match r.1 with
  | .bl true => b env r.2
  | .bl false => some (.bl false, r.2)
  | _ => none
def mOrV (a b : M) : M := fun env S => (a env S).bind fun r => match r.1 with
  | .bl true => some (.bl true, r.2)
  | .bl false => b env r.2
  | _ => none
theorem se_andV {ta tb : TE} {a b : M} (h1 : SE ta a) (h2 : SE tb b) : SE (tAndV ta tb) (mAndV a b) := by
  intro O P σ H env S r Q I e q
  unfold mAndV at e
  cases em : a env S with
  | none => rw [em] at e; cases e
  | some x =>
    rw [em] at e
    simp only [Option.bind_some] at e
    refine h1 O P σ H env S x _ I em fun v H' f s rx => ?_
    split at e
    · rename_i hb
      rw [hb] at rx
      cases rx
      refine ⟨true, rfl, ?_⟩
      rw [if_pos rfl]
      exact h2 O P σ H' env x.2 r _ (I.fr f s) e fun v2 H2 f2 s2 => q v2 H2 (f.trans f2) s2
    · rename_i hb
      rw [hb] at rx
      cases rx
      cases e
      exact ⟨false, rfl, by rw [if_neg Bool.false_ne_true]; exact q _ H' f s (.bl _)⟩
    · cases e
theorem se_orV {ta tb : TE} {a b : M} (h1 : SE ta a) (h2 : SE tb b) : SE (tOrV ta tb) (mOrV a b) := by
  intro O P σ H env S r Q I e q
  unfold mOrV at e
  cases em : a env S with
  | none => rw [em] at e; cases e
  | some x =>
    rw [em] at e
    simp only [Option.bind_some] at e
    refine h1 O P σ H env S x _ I em fun v H' f s rx => ?_
    split at e
    · rename_i hb
      rw [hb] at rx
      cases rx
      cases e
      exact ⟨true, rfl, by rw [if_pos rfl]; exact q _ H' f s (.bl _)⟩
    · rename_i hb
      rw [hb] at rx
      cases rx
      refine ⟨false, rfl, ?_⟩
      rw [if_neg Bool.false_ne_true]
      exact h2 O P σ H' env x.2 r _ (I.fr f s) e fun v2 H2 f2 s2 => q v2 H2 (f.trans f2) s2
    · cases e
def mNotV (a : M) : M := fun env S => (a env S).bind fun r => (dTru r.1).map fun b => (.bl (!b), r.2)
theorem se_notT {K : PySem.W.Frag} {ta : TE} {a : M} (h : SB ta a) : SE (tNotT K ta) (mNotV a) := by
  intro O P σ H env S r Q I e q
  unfold mNotV at e
  cases em : a env S with
  | none => rw [em] at e; cases e
  | some x =>
    rw [em] at e
    simp only [Option.bind_some] at e
    cases eb : dTru x.1 with
    | none => rw [eb] at e; cases e
    | some b =>
      rw [eb] at e
      cases e
      exact h O P σ H env S x _ I em fun v H' f s rx => ⟨b, rx.tru I.ops eb, q _ H' f s (.bl _)⟩
def mIfE (c : MT) (a b : M) : M := fun env S => (c env S).bind fun r => if r.1 = true then a env r.2 else b env r.2
theorem se_if {t : TT} {ta tb : TE} {c : MT} {a b : M} (h : ST t c) (h1 : SE ta a) (h2 : SE tb b) : SE (tIf t ta tb) (mIfE c a b) := by
  intro O P σ H env S r Q I e q
  unfold mIfE at e
  cases em : c env S with
  | none => rw [em] at e; cases e
  | some x =>
    rw [em] at e
    simp only [Option.bind_some] at e
    refine h O P σ H env S x _ I em fun H' f s => ?_
    split
    · rename_i hb
      rw [if_pos hb] at e
      exact h1 O P σ H' env x.2 r _ (I.fr f s) e fun v2 H2 f2 s2 => q v2 H2 (f.trans f2) s2
    · rename_i hb
      rw [if_neg hb] at e
      exact h2 O P σ H' env x.2 r _ (I.fr f s) e fun v2 H2 f2 s2 => q v2 H2 (f.trans f2) s2
/-- a op b op' c -/
def mChain (g g' : Dat → Dat → Option Dat) (a b c : M) : M := fun env S => (a env S).bind fun x => (b env x.2).bind fun y => match g x.1 y.1 with
  | some (.bl true) => (c env y.2).bind fun z => (g' y.1 z.1).map fun w => (w, z.2)
  | some (.bl false) => some (.bl false, y.2)
  | _ => none
theorem se_chain {r r' : R2} {g g' : Dat → Dat → Option Dat} {ta tb tc : TE} {ma mb mc : M} (hr : R2S r g) (hr' : R2S r' g') (ha : SB ta ma) (hb : SB tb mb) (hc : SB tc mc) : SE (tChain r r' ta tb tc) (mChain g g' ma mb mc) := by
  intro O P σ H env S w Q I e q
  unfold mChain at e
  cases ea : ma env S with
  | none => rw [ea] at e; cases e
  | some xa =>
    rw [ea] at e
    simp only [Option.bind_some] at e
    cases eb : mb env xa.2 with
    | none => rw [eb] at e; cases e
    | some xb =>
      rw [eb] at e
      simp only [Option.bind_some] at e
      refine ha O P σ H env S xa _ I ea fun v1 H1 f1 s1 r1 => ?_
      have I1 := I.fr f1 s1
      refine hb O P σ H1 env xa.2 xb _ I1 eb fun v2 H2 f2 s2 r2 => ?_
      have I2 := I1.fr f2 s2
      split at e
      · rename_i eg
        refine hr O P H2 xb.2 v1 v2 xa.1 xb.1 _ _ I2.hi (r1.fr f2 I.ops) r2 eg fun v H3 f s x => ?_
        cases x
        refine ⟨true, rfl, ?_⟩
        rw [if_pos rfl]
        have I3 := I2.fr f s
        cases ec : mc env xb.2 with
        | none => rw [ec] at e; cases e
        | some xc =>
          rw [ec] at e
          simp only [Option.bind_some] at e
          cases eg2 : g' xb.1 xc.1 with
          | none => rw [eg2] at e; cases e
          | some z =>
            rw [eg2] at e
            cases e
            refine hc O P σ H3 env xb.2 xc _ I3 ec fun v4 H4 f4 s4 r4 => ?_
            have I4 := I3.fr f4 s4
            exact hr' O P H4 xc.2 v2 v4 xb.1 xc.1 z Q I4.hi ((r2.fr f I.ops).fr f4 I.ops) r4 eg2 fun v H' f5 s5 x5 => q v H' ((((f1.trans f2).trans f).trans f4).trans f5) s5 x5
      · rename_i eg
        cases e
        refine hr O P H2 xb.2 v1 v2 xa.1 xb.1 _ _ I2.hi (r1.fr f2 I.ops) r2 eg fun v H3 f s x => ?_
        cases x
        refine ⟨false, rfl, ?_⟩
        rw [if_neg Bool.false_ne_true]
        exact q _ H3 ((f1.trans f2).trans f) s (.bl _)
      · cases e
section
variable {X : Cx} {pos : Pos} {a b c : Expr} {rest : List Expr} {ta tb tc : TE} {ma mb mc : M} {r r' : R2} {g g' : Dat → Dat → Option Dat} {tA tB : TT} {mA mB : MT}
theorem pt_cmpD {op : CmpOp} (ho : PDO X (compareOp op) r g) (ha : PDB X a ta ma) (hb : PDB X b tb mb) (hm : behindInMarks op b = false) : PDT X (.Compare a [op] [b] pos) (tTest (tOp r ta tb)) (mTest (m2 g ma mb)) :=
  ⟨pt_cmpR ho.op ha.pe hb.pe hm, st_test (se_op ho.sem ha.sem hb.sem)⟩
theorem pd_chain {op op' : CmpOp} (ho : PDO X (compareOp op) r g) (ho' : PDO X (compareOp op') r' g') (ha : PDB X a ta ma) (hb : PDB X b tb mb) (hc : PDB X c tc mc) (hm : lastMarks [op, op'] [b, c] = false := by with_unfolding_all rfl) :
    PDE X (.Compare a [op, op'] [b, c] pos) (tChain r r' ta tb tc) (mChain g g' ma mb mc) := ⟨pe_chain ho.op ho'.op ha.pe hb.pe hc.pe hm, se_chain ho.sem ho'.sem ha.sem hb.sem hc.sem⟩
theorem pt_chainD {op op' : CmpOp} (ho : PDO X (compareOp op) r g) (ho' : PDO X (compareOp op') r' g') (ha : PDB X a ta ma) (hb : PDB X b tb mb) (hc : PDB X c tc mc) (hm : lastMarks [op, op'] [b, c] = false := by with_unfolding_all rfl) :
    PDT X (.Compare a [op, op'] [b, c] pos) (tTest (tChain r r' ta tb tc)) (mTest (mChain g g' ma mb mc)) := ⟨pt_chain ho.op ho'.op ha.pe hb.pe hc.pe hm, st_test (se_chain ho.sem ho'.sem ha.sem hb.sem hc.sem)⟩
theorem pt_tru (ha : PDB X a ta ma) (he : ∀ whole, isTrue a X.env whole = (do let v ← whole; standAt a.pos; holding [v] (truthy v)) := by intro _; rfl) : PDT X a (fun σ H Q => ta σ H fun x H' => ∃ k, TruV X.K x H' k ∧ Q k H') (mTru ma) :=
  ⟨pt_truth ha.pe he, st_tru ha.sem⟩
theorem pt_notD (h : PDT X a tA mA) : PDT X (.UnaryOp .Not a pos) (tNot tA) (mNotT mA) := ⟨pt_not h.pt, st_not h.sem⟩
theorem pw_and1D (h : PDT X a tA mA) : PDW X (.BoolOp .And [a] pos) tA mA := ⟨pw_and1 h.pt, h.sem⟩
theorem pw_or1D (h : PDT X a tA mA) : PDW X (.BoolOp .Or [a] pos) tA mA := ⟨pw_or1 h.pt, h.sem⟩
theorem pw_andD (h : PDT X a tA mA) (h2 : PDW X (.BoolOp .And (b :: rest) pos) tB mB) : PDW X (.BoolOp .And (a :: b :: rest) pos) (tAnd tA tB) (mAndT mA mB) := ⟨pw_and h.pt h2.pw, st_and h.sem h2.sem⟩
theorem pw_orD (h : PDT X a tA mA) (h2 : PDW X (.BoolOp .Or (b :: rest) pos) tB mB) : PDW X (.BoolOp .Or (a :: b :: rest) pos) (tOr tA tB) (mOrT mA mB) := ⟨pw_or h.pt h2.pw, st_or h.sem h2.sem⟩
theorem PDW.pt (h : PDW X a tA mA) : PDT X a tA mA := ⟨h.pw.pt, h.sem⟩
theorem pd_one {op} (h : PDE X a ta ma) : PDE X (.BoolOp op [a] pos) ta ma := ⟨pe_one h.pe, h.sem⟩
theorem pd_and (h : PDE X a ta ma) (h2 : PDE X (.BoolOp .And (b :: rest) pos) tb mb) : PDE X (.BoolOp .And (a :: b :: rest) pos) (tAndV ta tb) (mAndV ma mb) := ⟨pe_and h.pe h2.pe, se_andV h.sem h2.sem⟩
theorem pd_or (h : PDE X a ta ma) (h2 : PDE X (.BoolOp .Or (b :: rest) pos) tb mb) : PDE X (.BoolOp .Or (a :: b :: rest) pos) (tOrV ta tb) (mOrV ma mb) := ⟨pe_or h.pe h2.pe, se_orV h.sem h2.sem⟩
theorem pd_not (h : PDB X a ta ma) : PDE X (.UnaryOp .Not a pos) (tNotT X.K ta) (mNotV ma) := ⟨pe_notT h.pe, se_notT h.sem⟩
theorem pd_ifE (h : PDT X c tA mA) (h1 : PDE X a ta ma) (h2 : PDE X b tb mb) : PDE X (.IfExp c a b pos) (tIf tA ta tb) (mIfE mA ma mb) := ⟨pe_ifExp h.pt h1.pe h2.pe, se_if h.sem h1.sem h2.sem⟩
end
end PD

namespace PD
open PySem PySem.Spec PyProof.Rows L2
/-! ### arguments, displays -/
theorem RepBL.fr {O : Addr → Prop} {P : Fix} {H H' : Hp} (f : Fr P H H') (o : O P.ps) : ∀ {vs : List V} {ds : List Dat}, RepBL O P H vs ds → RepBL O P H' vs ds
  | _, _, .nil => .nil
  | _, _, .cons r l => .cons (r.fr f o) (RepBL.fr f o l)
def mNil : ML := fun _ S => some ([], S)
def mCons (a : M) (b : ML) : ML := fun env S => (a env S).bind fun x => (b env x.2).map fun y => (x.1 :: y.1, y.2)
theorem sa_nil : SA tNil mNil := fun O P σ H env S r Q I e q => by
  cases e
  exact q [] H .refl I.sm .nil
theorem sab_nil : SAB tNil mNil := fun O P σ H env S r Q I e q => by
  cases e
  exact q [] H .refl I.sm .nil
theorem sa_cons {ta : TE} {t : TA} {a : M} {b : ML} (h : SE ta a) (h2 : SA t b) : SA (tCons ta t) (mCons a b) := by
  intro O P σ H env S r Q I e q
  unfold mCons at e
  cases ea : a env S with
  | none => rw [ea] at e; cases e
  | some x =>
    rw [ea] at e
    simp only [Option.bind_some] at e
    cases eb : b env x.2 with
    | none => rw [eb] at e; cases e
    | some y =>
      rw [eb] at e
      cases e
      refine h O P σ H env S x _ I ea fun v H' f s rx => ?_
      refine h2 O P σ H' env x.2 y _ (I.fr f s) eb fun vs H2 f2 s2 rs => ?_
      exact q _ H2 (f.trans f2) s2 (.cons (rx.tr (f2.tr I.ops)) rs)
theorem sab_cons {ta : TE} {t : TA} {a : M} {b : ML} (h : SB ta a) (h2 : SAB t b) : SAB (tCons ta t) (mCons a b) := by
  intro O P σ H env S r Q I e q
  unfold mCons at e
  cases ea : a env S with
  | none => rw [ea] at e; cases e
  | some x =>
    rw [ea] at e
    simp only [Option.bind_some] at e
    cases eb : b env x.2 with
    | none => rw [eb] at e; cases e
    | some y =>
      rw [eb] at e
      cases e
      refine h O P σ H env S x _ I ea fun v H' f s rx => ?_
      refine h2 O P σ H' env x.2 y _ (I.fr f s) eb fun vs H2 f2 s2 rs => ?_
      exact q _ H2 (f.trans f2) s2 (.cons (rx.fr f2 I.ops) rs)
section
variable {X : Cx} {e : Expr} {es : List Expr} {te : TE} {t : TA} {m : M} {ml : ML} {pos : Pos}
theorem pda_nil : PDA X [] tNil mNil := ⟨pa_nil, sa_nil⟩
theorem pdb_nil : PDAB X [] tNil mNil := ⟨pa_nil, sab_nil⟩
theorem pda_cons (h : PDE X e te m) (h2 : PDA X es t ml) (hs : starEach (e :: es) X.env = (false, eval e X.env) :: starEach es X.env := by rfl) : PDA X (e :: es) (tCons te t) (mCons m ml) := ⟨pa_cons h.pe h2.pa hs, sa_cons h.sem h2.sem⟩
theorem pdb_cons (h : PDB X e te m) (h2 : PDAB X es t ml) (hs : starEach (e :: es) X.env = (false, eval e X.env) :: starEach es X.env := by rfl) : PDAB X (e :: es) (tCons te t) (mCons m ml) := ⟨pa_cons h.pe h2.pa hs, sab_cons h.sem h2.sem⟩
def mTup (a : ML) : M := fun env S => (a env S).bind fun r => if r.1.length ≤ 1000 then some (.tup r.1, r.2) else none
def mLst (a : ML) : M := fun env S => (a env S).bind fun r => if r.1.length ≤ 1000 then some (.lst r.1, r.2) else none
theorem le1000 {n : Nat} (h : n ≤ 1000) : n ≤ sizeLine := Nat.le_trans h (by decide)
theorem not_own {O : Addr → Prop} {P : Fix} {H : Hp} {S : Sm} {p : Addr} (I : HI O P H S) (n : H p = none) : ¬ O p := fun o => I.dom p o n
theorem repL_new {O : Addr → Prop} {ps : Addr} {H : Hp} {p : Addr} {o : HO} {vs : List V} {ds : List Dat} (l : RepL O ps H vs ds) (n : H p = none) : RepL O ps (upd H p o) vs ds :=
  l.tr (.of fun a u na h => ⟨na, (upd_ne (ne_of_none h n)).trans h⟩)
theorem se_tup {ta : TA} (h : SA ta ml) : SE (tTupF ta) (mTup ml) := by
  intro O P σ H env S r Q I e q
  unfold mTup at e
  cases ea : ml env S with
  | none => rw [ea] at e; cases e
  | some x =>
    rw [ea] at e
    simp only [Option.bind_some] at e
    split at e
    · rename_i hz
      cases e
      refine h O P σ H env S x _ I ea fun vs H' f s rs => ?_
      have z : vs.length ≤ sizeLine := by rw [rs.len]; exact le1000 hz
      exact ⟨z, fun p ob n d => q _ _ (f.trans (.new n)) (s.new n) (.tup (.new d) (not_own (I.fr f s).hi n) z (repL_new rs n))⟩
    · cases e
theorem sn_lst {ta : TA} (h : SA ta ml) : SN (tLst ta) (mLst ml) := by
  intro O P σ H env S r Q I e q
  unfold mLst at e
  cases ea : ml env S with
  | none => rw [ea] at e; cases e
  | some x =>
    rw [ea] at e
    simp only [Option.bind_some] at e
    split at e
    · rename_i hz
      cases e
      refine h O P σ H env S x _ I ea fun vs H' f s rs => ?_
      have z : vs.length ≤ sizeLine := by rw [rs.len]; exact le1000 hz
      refine ⟨z, fun p n => q _ _ ?_ (ne_ps s n) (f.trans (.new n)) (s.new n) (own_new n z rs)⟩
      cases hp : H p with
      | none => rfl
      | some o => exact absurd (f p o (ne_ps s n) hp) (by rw [n]; simp)
    · cases e
theorem pd_tup {x1} (h : PDA X es t ml) : PDE X (.Tuple es x1 pos) (tTupF t) (mTup ml) := ⟨pe_tupF h.pa, se_tup h.sem⟩
theorem pn_lst (h : PDA X es t ml) : PDN X (.List es pos) (tLst t) (mLst ml) := ⟨pe_lst h.pa, sn_lst h.sem⟩
end
/-! ### a new thing's fields, by what is known ahead -/
theorem back_none {P : Fix} {H H' : Hp} {S : Sm} {p : Addr} (f : Fr P H H') (s : StrmAt P H' S) (n : H' p = none) : H p = none := by
  cases hp : H p with
  | none => rfl
  | some o => exact absurd (f p o (ne_ps s n) hp) (by rw [n]; simp)
/-! ### items -/
def gIx : Dat → Dat → Option Dat
  | .lst ds, .int i => atI ds i
  | .tup ds, .int i => atI ds i
  | .str x, .int i => (atI x.cps.toList i).map fun c => .str ⟨#[c]⟩
  | _, _ => none
theorem RepL.at {O : Addr → Prop} {ps : Addr} {H : Hp} {vs : List V} {ds : List Dat} {i : Int} {d : Dat} (l : RepL O ps H vs ds) (e : atI ds i = some d) : ∃ v, atI vs i = some v ∧ Rep O ps H v d := by
  unfold atI at e ⊢
  rw [l.len]
  cases q : ixN ds.length i with
  | none => rw [q] at e; cases e
  | some j =>
    rw [q] at e
    exact l.get e
theorem r2_ix {K : PySem.W.Frag} : R2S (rIx K) gIx := by
  intro O P H S x y d e z Q I rx ry eg q
  unfold gIx at eg
  split at eg
  · obtain ⟨a, vs, rfl, h, _, l, _⟩ := rx.lst I.ops
    cases ry.int
    obtain ⟨v, h1, h2⟩ := l.at eg
    exact .inl ⟨a, vs, _, v, rfl, rfl, SqL.of h, h1, q v H .refl I.sm h2⟩
  · obtain ⟨a, vs, rfl, h, _, l, _⟩ := rx.tup
    cases ry.int
    obtain ⟨v, h1, h2⟩ := l.at eg
    exact .inr (.inl ⟨a, vs, _, v, rfl, rfl, h.sq, h1, q v H .refl I.sm h2⟩)
  · obtain ⟨rfl, hz⟩ := rx.str
    cases ry.int
    cases ea : atI _ _ with
    | none => rw [ea] at eg; cases eg
    | some c =>
      rw [ea] at eg
      cases eg
      exact .inr (.inr ⟨_, _, c, rfl, rfl, hz, ea, q _ H .refl I.sm (.str _ (by show 1 ≤ sizeLine; decide))⟩)
  · cases eg
section
variable {X : Cx} {a b : Expr} {ta tb : TE} {ma mb : M} {pos : Pos}
theorem pd_ix (ha : PDB X a ta ma) (hb : PDB X b tb mb) (hs : PlainIx b := by exact fun _ _ => rfl) : PDE X (.Subscript a b pos) (tOp (rIx X.K) ta tb) (m2 gIx ma mb) := ⟨pe_ix ix_seq ha.pe hb.pe hs, se_op r2_ix ha.sem hb.sem⟩
end
/-! ### slices -/
abbrev MO := DEnv → Sm → Option (Option Int × Sm)
def SO (t : TO) (m : MO) : Prop := ∀ (O : Addr → Prop) (P : Fix) (σ : L2.St) (H : Hp) (env : DEnv) (S : Sm) (r : Option Int × Sm) (Q : Option Int → Hp → Prop), EI O P σ H env S → m env S = some r →
  (∀ H', Fr P H H' → StrmAt P H' r.2 → Q r.1 H') → t σ H Q
structure PDP (X : Cx) (e : Option Expr) (t : TO) (m : MO) : Prop where
  po : PO X e t
  sem : SO t m
def mNoP : MO := fun _ S => some (none, S)
def mP (a : M) : MO := fun env S => (a env S).bind fun r => match r.1 with
  | .int i => some (some i, r.2)
  | _ => none
theorem pp_none {X : Cx} : PDP X none tNoPart mNoP := ⟨po_none, fun O P σ H env S r Q I e q => by cases e; exact q H .refl I.sm⟩
theorem pp_some {X : Cx} {e : Expr} {t : TE} {m : M} (h : PDB X e t m) : PDP X (some e) (tPart t) (mP m) := ⟨po_some h.pe, fun O P σ H env S r Q I e q => by
  unfold mP at e
  cases ea : m env S with
  | none => rw [ea] at e; cases e
  | some x =>
    rw [ea] at e
    simp only [Option.bind_some] at e
    split at e
    · rename_i i hi
      cases e
      refine h.sem O P σ H env S x _ I ea fun v H' f s rx => ?_
      rw [hi] at rx
      exact ⟨i, rx.int, q H' f s⟩
    · cases e⟩
def cutD (xs : List Dat) (lo hi : Option Int) : List Dat := (xs.drop (HT.sIx xs.length 0 lo)).take (HT.sIx xs.length xs.length hi - HT.sIx xs.length 0 lo)
def gSl (d : Dat) (lo hi : Option Int) : Option Dat := match d with
  | .lst ds => some (.lst (cutD ds lo hi))
  | .tup ds => some (.tup (cutD ds lo hi))
  | .str x => some (.str (cutS x lo hi))
  | _ => none
theorem RepL.cut {O : Addr → Prop} {ps : Addr} {H : Hp} {vs : List V} {ds : List Dat} (l : RepL O ps H vs ds) (lo hi : Option Int) : RepL O ps H (cutV vs lo hi) (cutD ds lo hi) := by
  unfold cutV cutD
  rw [l.len]
  exact (l.drop _).take _
def rSlD (K : PySem.W.Frag) : V → Option Int → Option Int → Hp → VK → Prop := fun x lo hi H Q => rSlL K x lo hi H Q ∨ rSlF K x lo hi H Q ∨ rSlS x lo hi H Q
theorem sl_any {X : Cx} : SlR X (rSlD X.K) := sl_list.or (sl_tupF.or sl_str)
def mSl (a : M) (l h : MO) : M := fun env S => (a env S).bind fun x => (l env x.2).bind fun y => (h env y.2).bind fun z => (gSl x.1 y.1 z.1).map fun w => (w, z.2)
theorem cut_whole (ds : List Dat) (lo hi : Option Int) (h : HT.sIx ds.length 0 lo = 0 ∧ HT.sIx ds.length ds.length hi = ds.length) : cutD ds lo hi = ds := by
  unfold cutD
  rw [h.1, h.2]
  simp
theorem se_sl {K : PySem.W.Frag} {te : TE} {tl th : TO} {a : M} {l h : MO} (ha : SB te a) (hl : SO tl l) (hh : SO th h) : SE (tSl (rSlD K) te tl th) (mSl a l h) := by
  intro O P σ H env S r Q I e q
  unfold mSl at e
  cases ea : a env S with
  | none => rw [ea] at e; cases e
  | some x =>
    rw [ea] at e
    simp only [Option.bind_some] at e
    cases eb : l env x.2 with
    | none => rw [eb] at e; cases e
    | some y =>
      rw [eb] at e
      simp only [Option.bind_some] at e
      cases ec : h env y.2 with
      | none => rw [ec] at e; cases e
      | some z =>
        rw [ec] at e
        simp only [Option.bind_some] at e
        cases eg : gSl x.1 y.1 z.1 with
        | none => rw [eg] at e; cases e
        | some w =>
          rw [eg] at e
          cases e
          refine ha O P σ H env S x _ I ea fun v H1 f1 s1 rx => ?_
          have I1 := I.fr f1 s1
          refine hl O P σ H1 env x.2 y _ I1 eb fun H2 f2 s2 => ?_
          have I2 := I1.fr f2 s2
          refine hh O P σ H2 env y.2 z _ I2 ec fun H3 f3 s3 => ?_
          have I3 := I2.fr f3 s3
          have rx3 := (rx.fr f2 I.ops).fr f3 I.ops
          have ff := (f1.trans f2).trans f3
          unfold gSl at eg
          split at eg
          · rename_i ds hd
            rw [hd] at rx3
            cases eg
            obtain ⟨b, vs, rfl, hb, hz, lb, _⟩ := rx3.lst I.ops
            exact .inl ⟨b, vs, rfl, SqL.of hb, fun p n => q _ _ (ff.trans (.new n)) (s3.new n) (.lst upd_same (not_own I3.hi n) (Nat.le_trans (cutV_length _ _ _) hz) (repL_new (lb.cut _ _) n))⟩
          · rename_i ds hd
            rw [hd] at rx3
            cases eg
            obtain ⟨b, vs, rfl, hb, hz, lb, nb⟩ := rx3.tup
            refine .inr (.inl ⟨b, vs, rfl, hb.sq, fun hw => q _ _ ff s3 ?_, fun _ p ob n d => q _ _ (ff.trans (.new n)) (s3.new n) (.tup (.new d) (not_own I3.hi n) (Nat.le_trans (cutV_length _ _ _) hz) (repL_new (lb.cut _ _) n))⟩)
            rw [lb.len] at hw
            rw [cut_whole ds _ _ hw]
            exact .tup hb nb hz lb
          · rename_i t hd
            rw [hd] at rx3
            cases eg
            obtain ⟨rfl, hz⟩ := rx3.str
            exact .inr (.inr ⟨_, rfl, hz, q _ _ ff s3 (.str _ (Nat.le_trans (cutS_length _ _ _) hz))⟩)
          · cases eg
theorem pd_slice {X : Cx} {e : Expr} {lo hi : Option Expr} {te : TE} {tl th : TO} {a : M} {l h : MO} {pos p2 : Pos} (he : PDB X e te a) (hl : PDP X lo tl l) (hh : PDP X hi th h) :
    PDE X (.Subscript e (.Slice lo hi none p2) pos) (tSl (rSlD X.K) te tl th) (mSl a l h) := ⟨pe_slice sl_any he.pe hl.po hh.po, se_sl he.sem hl.sem hh.sem⟩
/-! ### in -/
def Dat.flat : Dat → Bool
  | .non => true
  | .bl _ => true
  | .int _ => true
  | .str _ => true
  | _ => false
def eqF : Dat → Dat → Bool
  | .non, .non => true
  | .bl a, .bl b => a == b
  | .bl a, .int b => (if a then 1 else 0) == b
  | .int a, .bl b => a == (if b then 1 else 0)
  | .int a, .int b => a == b
  | .str a, .str b => a == b
  | _, _ => false
def gInF (neg : Bool) : Dat → Dat → Option Dat
  | d, .lst ds => if (d.flat && ds.all Dat.flat) = true then some (.bl (xor neg (ds.any fun y => eqF y d))) else none
  | d, .tup ds => if (d.flat && ds.all Dat.flat) = true then some (.bl (xor neg (ds.any fun y => eqF y d))) else none
  | _, _ => none
theorem Rep.flat {O : Addr → Prop} {ps : Addr} {H : Hp} {v : V} {d : Dat} (r : Rep O ps H v d) (h : d.flat = true) : flatV v = true := by
  cases r <;> first | rfl | cases h
theorem RepB.rep_flat {O : Addr → Prop} {P : Fix} {H : Hp} {v : V} {d : Dat} (r : RepB O P H v d) (h : d.flat = true) : Rep O P.ps H v d := by
  rcases r with r | ⟨p, rfl, _, _, o⟩
  · exact r
  · cases d <;> first | exact (show False from o).elim | exact Bool.noConfusion (show false = true from h)
theorem Rep.eqF {O O' : Addr → Prop} {ps : Addr} {H H' : Hp} {v u : V} {d e : Dat} (r : Rep O ps H v d) (r' : Rep O' ps H' u e) (h : d.flat = true) (h' : e.flat = true) : eqV v u = eqF d e := by
  cases r <;> first | exact Bool.noConfusion (show false = true from h) | (cases r' <;> first | exact Bool.noConfusion (show false = true from h') | rfl)
theorem RepL.flat {O : Addr → Prop} {ps : Addr} {H : Hp} : ∀ {vs : List V} {ds : List Dat}, RepL O ps H vs ds → ds.all Dat.flat = true → vs.all flatV = true
  | _, _, .nil, _ => rfl
  | _, _, .cons r l, h => by
    rw [List.all_cons, Bool.and_eq_true] at h ⊢
    exact ⟨r.flat h.1, RepL.flat l h.2⟩
theorem RepL.inF {O : Addr → Prop} {ps : Addr} {H : Hp} {x : V} {d : Dat} (rx : Rep O ps H x d) (hx : d.flat = true) : ∀ {vs : List V} {ds : List Dat}, RepL O ps H vs ds → ds.all Dat.flat = true → inV x vs = ds.any fun y => PD.eqF y d
  | _, _, .nil, _ => rfl
  | _, _, .cons r l, h => by
    rw [List.all_cons, Bool.and_eq_true] at h
    have e1 := RepL.inF rx hx l h.2
    have e2 := r.eqF rx h.1 hx
    unfold inV at e1 ⊢
    rw [List.any_cons, List.any_cons, e1]
    exact congrArg (· || _) e2
theorem r2_inF {K : PySem.W.Frag} (neg : Bool) : R2S (rIn K neg) (gInF neg) := by
  intro O P H S x y d e z Q I rx ry eg q
  have fin : ∀ b : Bool, (if neg = true then !b else b) = xor neg b := fun b => by cases neg <;> cases b <;> rfl
  unfold gInF at eg
  split at eg
  · split at eg
    · rename_i h
      rw [Bool.and_eq_true] at h
      cases eg
      obtain ⟨a, vs, rfl, ha, _, l, _⟩ := ry.lst I.ops
      have rx' := rx.rep_flat h.1
      refine ⟨a, vs, rfl, .inl (SqL.of ha), rx'.flat h.1, l.flat h.2, ?_⟩
      rw [fin, l.inF rx' h.1 h.2]
      exact q _ H .refl I.sm (.bl _)
    · cases eg
  · split at eg
    · rename_i h
      rw [Bool.and_eq_true] at h
      cases eg
      obtain ⟨a, vs, rfl, ha, _, l, _⟩ := ry.tup
      have rx' := rx.rep_flat h.1
      refine ⟨a, vs, rfl, .inr ha.sq, rx'.flat h.1, l.flat h.2, ?_⟩
      rw [fin, l.inF rx' h.1 h.2]
      exact q _ H .refl I.sm (.bl _)
    · cases eg
  · cases eg
/-- one sign in a text -/
def gInS (neg : Bool) : Dat → Dat → Option Dat
  | .str x, .str y => match x.cps.toList with
    | [c] => some (.bl (xor neg (decide (c ∈ y.cps.toList))))
    | _ => none
  | _, _ => none
theorem str_one {x : Str} {c : Nat} (h : x.cps.toList = [c]) : x = ⟨#[c]⟩ := by
  cases x with
  | mk a =>
    congr 1
    exact Array.toList_inj.mp h
theorem r2_inS (neg : Bool) : R2S (fun x y H Q => ∃ (c : Nat) (z : Str), x = .str ⟨#[c]⟩ ∧ y = .str z ∧ Q (.bl (xor neg (decide (c ∈ z.cps.toList)))) H) (gInS neg) := by
  intro O P H S x y d e z Q I rx ry eg q
  unfold gInS at eg
  split at eg
  · split at eg
    · rename_i c hc
      cases eg
      obtain ⟨rfl, _⟩ := rx.str
      obtain ⟨rfl, _⟩ := ry.str
      exact ⟨c, _, by rw [str_one hc], rfl, q _ H .refl I.sm (.bl _)⟩
    · cases eg
  · cases eg
/-- nested data in a list -/
def gInD (neg : Bool) : Dat → Dat → Option Dat
  | d, .lst ds => match toPy d, toPyL ds with
    | some x, some xs => if (SeqAt.shaped x && SeqAt.shaped (.list xs)) = true then some (.bl (xor neg (xs.any fun z => PyData.eqv z x))) else none
    | _, _ => none
  | _, _ => none
theorem r2_inD {K : PySem.W.Frag} (neg : Bool) : R2S (fun x y H Q => ∃ d ds, Dp K H x d ∧ Dp K H y (.list ds) ∧ SeqAt.shaped d = true ∧ SeqAt.shaped (.list ds) = true ∧ Q (.bl (xor neg (ds.any fun z => PyData.eqv z d))) H) (gInD neg) := by
  intro O P H S x y d e z Q I rx ry eg q
  unfold gInD at eg
  split at eg
  · rename_i ds
    split at eg
    · rename_i px pxs e1 e2
      split at eg
      · rename_i h
        rw [Bool.and_eq_true] at h
        cases eg
        exact ⟨px, pxs, rx.dp e1, ry.dp (show toPy (.lst ds) = some (.list pxs) by unfold toPy; rw [e2]), h.1, h.2, q _ H .refl I.sm (.bl _)⟩
      · cases eg
    · cases eg
  · cases eg
theorem OpR.congr {X : Cx} {f : Value → Value → Sem Value} {r r' : R2} (h : OpR X f r) (e : ∀ x y H Q, r' x y H Q → r x y H Q) : OpR X f r' := fun pins s σ H x y v u Q I rx ry q => h pins s σ H x y v u Q I rx ry (e x y H Q q)
abbrev gIn := gOr (gInF false) (gOr (gInS false) (gInD false))
abbrev gNotIn := gOr (gInF true) (gOr (gInS true) (gInD true))
section
variable {X : Cx}
def rInA (K : PySem.W.Frag) (neg : Bool) : R2 := rOr (rIn K neg) (rOr (fun x y H Q => ∃ (c : Nat) (z : Str), x = .str ⟨#[c]⟩ ∧ y = .str z ∧ Q (.bl (xor neg (decide (c ∈ z.cps.toList)))) H)
  (fun x y H Q => ∃ d ds, Dp K H x d ∧ Dp K H y (.list ds) ∧ SeqAt.shaped d = true ∧ SeqAt.shaped (.list ds) = true ∧ Q (.bl (xor neg (ds.any fun z => PyData.eqv z d))) H))
theorem hu65 {k : Nat} {A : Around} (hr : Room k A) : A.units + 65 < cLine := by have := hr.un; omega
theorem po_in {k : Nat} (hr : Room k X.A) : PDO X (compareOp .In) (rInA X.K false) gIn := by
  refine ⟨OpR.or op_in_seq (OpR.or (OpR.congr op_in_sign fun x y H Q h => ?_) (OpR.congr (op_inD (hu65 hr)) fun x y H Q h => ?_)), (r2_inF false).or ((r2_inS false).or (r2_inD false))⟩
  · obtain ⟨c, z, e1, e2, q⟩ := h
    rw [Bool.false_xor] at q
    exact ⟨c, z, e1, e2, q⟩
  · obtain ⟨d, ds, h1, h2, h3, h4, q⟩ := h
    rw [Bool.false_xor] at q
    exact ⟨d, ds, h1, h2, h3, h4, q⟩
theorem po_notin {k : Nat} (hr : Room k X.A) : PDO X (compareOp .NotIn) (rInA X.K true) gNotIn := by
  refine ⟨OpR.or op_notIn_seq (OpR.or (OpR.congr op_notIn_sign fun x y H Q h => ?_) (OpR.congr (op_notInD (hu65 hr)) fun x y H Q h => ?_)), (r2_inF true).or ((r2_inS true).or (r2_inD true))⟩
  · obtain ⟨c, z, e1, e2, q⟩ := h
    rw [Bool.true_xor] at q
    exact ⟨c, z, e1, e2, q⟩
  · obtain ⟨d, ds, h1, h2, h3, h4, q⟩ := h
    rw [Bool.true_xor] at q
    exact ⟨d, ds, h1, h2, h3, h4, q⟩
end
end PD

namespace PD
open PySem PySem.Spec PyProof.Rows L2
/-! ### calls of the program's own defs -/
abbrev Phi := List Dat → Sm → Option (Dat × Sm)
def Good (φ : Phi) : Sp := fun vs H Q _ => ∃ (O : Addr → Prop) (P : Fix) (ds : List Dat) (S : Sm) (r : Dat × Sm), HI O P H S ∧ RepL O P.ps H vs ds ∧ φ ds S = some r ∧
  ∀ v H', Fr P H H' → StrmAt P H' r.2 → Rep O P.ps H' v r.1 → Q v H'
def mCall (φ : Phi) (a : ML) : M := fun env S => (a env S).bind fun r => φ r.1 r.2
def mCallB (φ : Phi) (a : ML) : M := fun env S => (a env S).bind fun r => (φ r.1 r.2).bind fun w => if w.1.flat = true then some w else none
theorem se_call {φ : Phi} {t : TA} {a : ML} {E : XK} (h : SA t a) : SE (tCall (Good φ) [] E t) (mCall φ a) := by
  intro O P σ H env S r Q I e q
  unfold mCall at e
  cases ea : a env S with
  | none => rw [ea] at e; cases e
  | some x =>
    rw [ea] at e
    simp only [Option.bind_some] at e
    refine h O P σ H env S x _ I ea fun vs H' f s rs => ?_
    rw [List.append_nil]
    exact ⟨O, P, x.1, x.2, r, (I.fr f s).hi, rs, e, fun v H2 f2 s2 rv => q v H2 (f.trans f2) s2 rv⟩
theorem Rep.flatO {O O' : Addr → Prop} {ps : Addr} {H : Hp} {v : V} {d : Dat} (r : Rep O ps H v d) (h : d.flat = true) : Rep O' ps H v d := by
  cases r <;> first | exact Bool.noConfusion (show false = true from h) | exact .non | exact .bl _ | exact .int _ | exact .str _ (by assumption)
theorem RepBL.free {O : Addr → Prop} {P : Fix} {H : Hp} (o : O P.ps) (all : List V) : ∀ {vs : List V} {ds : List Dat}, RepBL O P H vs ds → (∀ v ∈ vs, v ∈ all) → RepL (fun a => a = P.ps ∨ (O a ∧ V.ref a ∉ all)) P.ps H vs ds
  | _, _, .nil, _ => .nil
  | _, _, .cons r l, hm => by
    have t : Tr O H (fun a => a = P.ps ∨ (O a ∧ V.ref a ∉ all)) H := .of fun a u na h => ⟨fun q => q.elim (fun e => na (e ▸ o)) fun q => na q.1, h⟩
    refine .cons ?_ (RepBL.free o all l fun v hv => hm v (List.mem_cons_of_mem _ hv))
    rcases r with r | ⟨p, rfl, h1, h2, h3⟩
    · exact r.tr t
    · exact (h3.mono t fun _ h => h).rep fun q => q.elim h2 fun q => q.2 (hm _ List.mem_cons_self)
theorem se_callB {φ : Phi} {t : TA} {a : ML} {E : XK} (h : SAB t a) : SE (tCall (Good φ) [] E t) (mCallB φ a) := by
  intro O P σ H env S r Q I e q
  unfold mCallB at e
  cases ea : a env S with
  | none => rw [ea] at e; cases e
  | some x =>
    rw [ea] at e
    simp only [Option.bind_some] at e
    cases ew : φ x.1 x.2 with
    | none => rw [ew] at e; cases e
    | some w =>
      rw [ew] at e
      simp only [Option.bind_some] at e
      split at e
      · rename_i hf
        cases e
        refine h O P σ H env S x _ I ea fun vs H' f s rs => ?_
        rw [List.append_nil]
        have I1 := (I.fr f s).hi
        refine ⟨fun a => a = P.ps ∨ (O a ∧ V.ref a ∉ vs), P, x.1, x.2, r, ⟨.inl rfl, fun z => z.elim (fun z => I.nq (z ▸ I.ops)) fun z => I.nq z.1, fun a z => z.elim (fun z => I1.dom a (z ▸ I.ops)) fun z => I1.dom a z.1, s⟩, rs.free I.ops vs fun _ z => z, ew, fun v H2 f2 s2 rv => q v H2 (f.trans f2) s2 (rv.flatO hf)⟩
      · cases e
section
variable {X : Cx} {φ : Phi} {k : Nat} {f : Addr} {fd : FuncData} {ps : List Str} {x : Str} {p pos : Pos} {e : Expr} {es : List Expr} {t : TA} {ml : ML}
theorem pd_call (F : FnOk X.prog X.w X.K X.mg X.base CX0 k f fd ps (Good φ)) (hr : Room k X.A) (hg : Gl X x) (hm : X.mg x = some (.ref f)) (hk : PySem.W.keepIn X.K (.ref f) = true) (hb : Binds X.K fd ps [])
    (ha : PDA X (e :: es) t ml) (hdb : (x == ("__debug__" : Str)) = false := by decide) (he : starEach (e :: es) X.env = (false, eval e X.env) :: starEach es X.env := by rfl) (hpl : (backTo pos (starEach es X.env)).any (·.1) = false := by rfl) :
    PDE X (.Call (.Name x p) (e :: es) [] pos) (tCall (Good φ) [] E0 t) (mCall φ ml) := ⟨pe_call F hr hg hm hk hb .nil pass0 ha.pa hdb he hpl, se_call ha.sem⟩
theorem pd_callBo (F : FnOk X.prog X.w X.K X.mg X.base CX0 k f fd ps (Good φ)) (hr : Room k X.A) (hg : Gl X x) (hm : X.mg x = some (.ref f)) (hk : PySem.W.keepIn X.K (.ref f) = true) (hb : Binds X.K fd ps [])
    (ha : PDAB X (e :: es) t ml) (hdb : (x == ("__debug__" : Str)) = false := by decide) (he : starEach (e :: es) X.env = (false, eval e X.env) :: starEach es X.env := by rfl) (hpl : (backTo pos (starEach es X.env)).any (·.1) = false := by rfl) :
    PDE X (.Call (.Name x p) (e :: es) [] pos) (tCall (Good φ) [] E0 t) (mCallB φ ml) := ⟨pe_call F hr hg hm hk hb .nil pass0 ha.pa hdb he hpl, se_callB ha.sem⟩
end
/-! ### calls of built-ins -/
def CS (r : List V → Hp → VK → Prop) (g : List Dat → Option Dat) : Prop := ∀ (O : Addr → Prop) (P : Fix) (H : Hp) (S : Sm) (vs : List V) (ds : List Dat) (z : Dat) (Q : VK), HI O P H S → RepBL O P H vs ds → g ds = some z →
  (∀ v H', Fr P H H' → StrmAt P H' S → Rep O P.ps H' v z → Q v H') → r vs H Q
def CN (r : List V → Hp → VK → Prop) (g : List Dat → Option Dat) : Prop := ∀ (O : Addr → Prop) (P : Fix) (H : Hp) (S : Sm) (vs : List V) (ds : List Dat) (z : Dat) (Q : VK), HI O P H S → RepBL O P H vs ds → g ds = some z →
  (∀ p H', H p = none → Fr P H H' → StrmAt P H' S → Own (fun a => O a ∨ a = p) P.ps H' p z → Q (.ref p) H') → r vs H Q
def mB (g : List Dat → Option Dat) (a : ML) : M := fun env S => (a env S).bind fun r => (g r.1).map fun z => (z, r.2)
theorem se_cb {r : List V → Hp → VK → Prop} {g : List Dat → Option Dat} {t : TA} {a : ML} (hr : CS r g) (h : SAB t a) : SE (tCB r t) (mB g a) := by
  intro O P σ H env S w Q I e q
  unfold mB at e
  cases ea : a env S with
  | none => rw [ea] at e; cases e
  | some x =>
    rw [ea] at e
    simp only [Option.bind_some] at e
    cases eg : g x.1 with
    | none => rw [eg] at e; cases e
    | some z =>
      rw [eg] at e
      cases e
      exact h O P σ H env S x _ I ea fun vs H' f s rs => hr O P H' x.2 vs x.1 z Q (I.fr f s).hi rs eg fun v H2 f2 s2 rv => q v H2 (f.trans f2) s2 rv
theorem sn_cb {r : List V → Hp → VK → Prop} {g : List Dat → Option Dat} {t : TA} {a : ML} (hr : CN r g) (h : SAB t a) : SN (tCB r t) (mB g a) := by
  intro O P σ H env S w Q I e q
  unfold mB at e
  cases ea : a env S with
  | none => rw [ea] at e; cases e
  | some x =>
    rw [ea] at e
    simp only [Option.bind_some] at e
    cases eg : g x.1 with
    | none => rw [eg] at e; cases e
    | some z =>
      rw [eg] at e
      cases e
      exact h O P σ H env S x _ I ea fun vs H' f s rs => hr O P H' x.2 vs x.1 z Q (I.fr f s).hi rs eg fun p H2 n f2 s2 rv => q p H2 (back_none f s n) (ne_ps s n) (f.trans f2) s2 rv
theorem RepBL.one {O : Addr → Prop} {P : Fix} {H : Hp} {vs : List V} {d : Dat} (r : RepBL O P H vs [d]) : ∃ v, vs = [v] ∧ RepB O P H v d := by
  cases r with
  | cons r l => cases l; exact ⟨_, rfl, r⟩
theorem RepBL.two {O : Addr → Prop} {P : Fix} {H : Hp} {vs : List V} {d e : Dat} (r : RepBL O P H vs [d, e]) : ∃ v u, vs = [v, u] ∧ RepB O P H v d ∧ RepB O P H u e := by
  cases r with
  | cons r l =>
    obtain ⟨u, rfl, ru⟩ := l.one
    exact ⟨_, _, rfl, r, ru⟩
def gLen : List Dat → Option Dat
  | [.str x] => some (.int x.length)
  | [.lst ds] => some (.int ds.length)
  | [.tup ds] => some (.int ds.length)
  | _ => none
theorem cs_len {K : PySem.W.Frag} : CS (fun xs H Q => ∃ x n, xs = [x] ∧ LenV K x H n ∧ Q (.int n) H) gLen := by
  intro O P H S vs ds z Q I rs eg q
  unfold gLen at eg
  split at eg
  · cases eg
    obtain ⟨v, rfl, r⟩ := rs.one
    obtain ⟨rfl, hz⟩ := r.str
    exact ⟨_, _, rfl, ⟨hz, rfl⟩, q _ H .refl I.sm (.int _)⟩
  · cases eg
    obtain ⟨v, rfl, r⟩ := rs.one
    obtain ⟨a, vs, rfl, ha, _, l, _⟩ := r.lst I.ops
    exact ⟨_, _, rfl, .inl ⟨vs, SqL.of ha, l.len.symm⟩, q _ H .refl I.sm (.int _)⟩
  · cases eg
    obtain ⟨v, rfl, r⟩ := rs.one
    obtain ⟨a, vs, rfl, ha, _, l, _⟩ := r.tup
    exact ⟨_, _, rfl, .inr ⟨vs, ha.sq, l.len.symm⟩, q _ H .refl I.sm (.int _)⟩
  · cases eg
def gAbs : List Dat → Option Dat
  | [.int i] => some (.int (if i < 0 then -i else i))
  | _ => none
theorem cs_abs : CS (fun xs H Q => ∃ i, xs = [.int i] ∧ Q (.int (if i < 0 then -i else i)) H) gAbs := by
  intro O P H S vs ds z Q I rs eg q
  unfold gAbs at eg
  split at eg
  · cases eg
    obtain ⟨v, rfl, r⟩ := rs.one
    cases r.int
    exact ⟨_, rfl, q _ H .refl I.sm (.int _)⟩
  · cases eg
def gIntOf : List Dat → Option Dat
  | [.int i] => some (.int i)
  | [.bl b] => some (.int (if b = true then 1 else 0))
  | _ => none
theorem cs_int : CS (fun xs H Q => (∃ i, xs = [.int i] ∧ Q (.int i) H) ∨ ∃ k, xs = [.bl k] ∧ Q (.int (if k then 1 else 0)) H) gIntOf := by
  intro O P H S vs ds z Q I rs eg q
  unfold gIntOf at eg
  split at eg
  · cases eg
    obtain ⟨v, rfl, r⟩ := rs.one
    cases r.int
    exact .inl ⟨_, rfl, q _ H .refl I.sm (.int _)⟩
  · cases eg
    obtain ⟨v, rfl, r⟩ := rs.one
    cases r.bl
    exact .inr ⟨_, rfl, q _ H .refl I.sm (.int _)⟩
  · cases eg
def gMax2 : List Dat → Option Dat
  | [.int i, .int j] => some (.int (if j > i then j else i))
  | _ => none
def gMin2 : List Dat → Option Dat
  | [.int i, .int j] => some (.int (if j < i then j else i))
  | _ => none
theorem cs_max2 : CS (fun xs H Q => ∃ i j, xs = [.int i, .int j] ∧ Q (.int (if j > i then j else i)) H) gMax2 := by
  intro O P H S vs ds z Q I rs eg q
  unfold gMax2 at eg
  split at eg
  · cases eg
    obtain ⟨v, u, rfl, r, ru⟩ := rs.two
    cases r.int; cases ru.int
    exact ⟨_, _, rfl, q _ H .refl I.sm (.int _)⟩
  · cases eg
theorem cs_min2 : CS (fun xs H Q => ∃ i j, xs = [.int i, .int j] ∧ Q (.int (if j < i then j else i)) H) gMin2 := by
  intro O P H S vs ds z Q I rs eg q
  unfold gMin2 at eg
  split at eg
  · cases eg
    obtain ⟨v, u, rfl, r, ru⟩ := rs.two
    cases r.int; cases ru.int
    exact ⟨_, _, rfl, q _ H .refl I.sm (.int _)⟩
  · cases eg
/-- lists of ints, of bools, of texts -/
def toInts : List Dat → Option (List Int)
  | [] => some []
  | .int i :: r => (toInts r).map (i :: ·)
  | _ => none
def toBls : List Dat → Option (List Bool)
  | [] => some []
  | .bl i :: r => (toBls r).map (i :: ·)
  | _ => none
def toStrs : List Dat → Option (List Str)
  | [] => some []
  | .str i :: r => (toStrs r).map (i :: ·)
  | _ => none
theorem RepL.ints {O : Addr → Prop} {ps : Addr} {H : Hp} : ∀ {vs : List V} {ds : List Dat} {ns : List Int}, RepL O ps H vs ds → toInts ds = some ns → vs = ns.map V.int
  | _, _, _, .nil, e => by cases e; rfl
  | _, _, _, .cons (d := d) (ds := ds) r l, e => by
    unfold toInts at e
    split at e
    · rename_i h; cases h
    · rename_i i r' h
      cases h
      cases q : toInts ds with
      | none => rw [q] at e; cases e
      | some ms => rw [q] at e; cases e; cases r; rw [RepL.ints l q]; rfl
    · cases e
theorem RepL.bls {O : Addr → Prop} {ps : Addr} {H : Hp} : ∀ {vs : List V} {ds : List Dat} {ns : List Bool}, RepL O ps H vs ds → toBls ds = some ns → vs = ns.map V.bl
  | _, _, _, .nil, e => by cases e; rfl
  | _, _, _, .cons (d := d) (ds := ds) r l, e => by
    unfold toBls at e
    split at e
    · rename_i h; cases h
    · rename_i i r' h
      cases h
      cases q : toBls ds with
      | none => rw [q] at e; cases e
      | some ms => rw [q] at e; cases e; cases r; rw [RepL.bls l q]; rfl
    · cases e
theorem RepL.strs {O : Addr → Prop} {ps : Addr} {H : Hp} : ∀ {vs : List V} {ds : List Dat} {ns : List Str}, RepL O ps H vs ds → toStrs ds = some ns → vs = ns.map V.str
  | _, _, _, .nil, e => by cases e; rfl
  | _, _, _, .cons (d := d) (ds := ds) r l, e => by
    unfold toStrs at e
    split at e
    · rename_i h; cases h
    · rename_i i r' h
      cases h
      cases q : toStrs ds with
      | none => rw [q] at e; cases e
      | some ms => rw [q] at e; cases e; cases r; rw [RepL.strs l q]; rfl
    · cases e
def gSum : List Dat → Option Dat
  | [.lst ds] => (toInts ds).map fun ns => .int ns.sum
  | _ => none
theorem cs_sum {K : PySem.W.Frag} : CS (rSum K) gSum := by
  intro O P H S vs ds z Q I rs eg q
  unfold gSum at eg
  split at eg
  · obtain ⟨v, rfl, r⟩ := rs.one
    obtain ⟨a, vs, rfl, ha, _, l, _⟩ := r.lst I.ops
    cases en : toInts _ with
    | none => rw [en] at eg; cases eg
    | some ns =>
      rw [en] at eg
      cases eg
      exact ⟨a, ns, rfl, l.ints en ▸ SqL.of ha, q _ H .refl I.sm (.int _)⟩
  · cases eg
def gAll : List Dat → Option Dat
  | [.lst ds] => (toBls ds).map fun ns => .bl (ns.all id)
  | _ => none
def gAny : List Dat → Option Dat
  | [.lst ds] => (toBls ds).map fun ns => .bl (ns.any id)
  | _ => none
theorem cs_all {K : PySem.W.Frag} : CS (rAll K) gAll := by
  intro O P H S vs ds z Q I rs eg q
  unfold gAll at eg
  split at eg
  · obtain ⟨v, rfl, r⟩ := rs.one
    obtain ⟨a, vs, rfl, ha, _, l, _⟩ := r.lst I.ops
    cases en : toBls _ with
    | none => rw [en] at eg; cases eg
    | some ns =>
      rw [en] at eg
      cases eg
      exact ⟨a, ns, rfl, l.bls en ▸ SqL.of ha, q _ H .refl I.sm (.bl _)⟩
  · cases eg
theorem cs_any {K : PySem.W.Frag} : CS (rAny K) gAny := by
  intro O P H S vs ds z Q I rs eg q
  unfold gAny at eg
  split at eg
  · obtain ⟨v, rfl, r⟩ := rs.one
    obtain ⟨a, vs, rfl, ha, _, l, _⟩ := r.lst I.ops
    cases en : toBls _ with
    | none => rw [en] at eg; cases eg
    | some ns =>
      rw [en] at eg
      cases eg
      exact ⟨a, ns, rfl, l.bls en ▸ SqL.of ha, q _ H .refl I.sm (.bl _)⟩
  · cases eg
/-- the greatest, the least of some ints -/
def maxI : List Int → Int
  | [] => 0
  | x :: r => r.foldl (fun a b => if b > a then b else a) x
def minI : List Int → Int
  | [] => 0
  | x :: r => r.foldl (fun a b => if b < a then b else a) x
theorem foldl_max (r : List Int) : ∀ x : Int, (r.foldl (fun a b => if b > a then b else a) x = x ∨ r.foldl (fun a b => if b > a then b else a) x ∈ r) ∧ x ≤ r.foldl (fun a b => if b > a then b else a) x ∧ ∀ y ∈ r, y ≤ r.foldl (fun a b => if b > a then b else a) x := by
  induction r with
  | nil => intro x; exact ⟨.inl rfl, Int.le_refl _, fun y h => by cases h⟩
  | cons b r ih =>
    intro x
    rw [List.foldl_cons]
    obtain ⟨h1, h2, h3⟩ := ih (if b > x then b else x)
    have hb : b ≤ (if b > x then b else x) ∧ x ≤ (if b > x then b else x) := by split <;> omega
    refine ⟨?_, by omega, fun y hy => ?_⟩
    · rcases h1 with h1 | h1
      · rw [h1]
        split
        · exact .inr List.mem_cons_self
        · exact .inl rfl
      · exact .inr (List.mem_cons_of_mem _ h1)
    · rcases List.mem_cons.mp hy with rfl | hy
      · omega
      · exact h3 y hy
theorem foldl_min (r : List Int) : ∀ x : Int, (r.foldl (fun a b => if b < a then b else a) x = x ∨ r.foldl (fun a b => if b < a then b else a) x ∈ r) ∧ r.foldl (fun a b => if b < a then b else a) x ≤ x ∧ ∀ y ∈ r, r.foldl (fun a b => if b < a then b else a) x ≤ y := by
  induction r with
  | nil => intro x; exact ⟨.inl rfl, Int.le_refl _, fun y h => by cases h⟩
  | cons b r ih =>
    intro x
    rw [List.foldl_cons]
    obtain ⟨h1, h2, h3⟩ := ih (if b < x then b else x)
    have hb : (if b < x then b else x) ≤ b ∧ (if b < x then b else x) ≤ x := by split <;> omega
    refine ⟨?_, by omega, fun y hy => ?_⟩
    · rcases h1 with h1 | h1
      · rw [h1]
        split
        · exact .inr List.mem_cons_self
        · exact .inl rfl
      · exact .inr (List.mem_cons_of_mem _ h1)
    · rcases List.mem_cons.mp hy with rfl | hy
      · omega
      · exact h3 y hy
theorem maxI_spec {ns : List Int} (h : 0 < ns.length) : maxI ns ∈ ns ∧ ∀ y ∈ ns, y ≤ maxI ns := by
  cases ns with
  | nil => cases h
  | cons x r =>
    obtain ⟨h1, h2, h3⟩ := foldl_max r x
    refine ⟨h1.elim (fun e => by show r.foldl _ x ∈ _; rw [e]; exact List.mem_cons_self) fun e => List.mem_cons_of_mem _ e, fun y hy => ?_⟩
    rcases List.mem_cons.mp hy with rfl | hy
    · exact h2
    · exact h3 y hy
theorem minI_spec {ns : List Int} (h : 0 < ns.length) : minI ns ∈ ns ∧ ∀ y ∈ ns, minI ns ≤ y := by
  cases ns with
  | nil => cases h
  | cons x r =>
    obtain ⟨h1, h2, h3⟩ := foldl_min r x
    refine ⟨h1.elim (fun e => by show r.foldl _ x ∈ _; rw [e]; exact List.mem_cons_self) fun e => List.mem_cons_of_mem _ e, fun y hy => ?_⟩
    rcases List.mem_cons.mp hy with rfl | hy
    · exact h2
    · exact h3 y hy
def gMax : List Dat → Option Dat
  | [.lst ds] => (toInts ds).bind fun ns => if 0 < ns.length then some (.int (maxI ns)) else none
  | _ => none
def gMin : List Dat → Option Dat
  | [.lst ds] => (toInts ds).bind fun ns => if 0 < ns.length then some (.int (minI ns)) else none
  | _ => none
theorem cs_max {K : PySem.W.Frag} : CS (rMax K) gMax := by
  intro O P H S vs ds z Q I rs eg q
  unfold gMax at eg
  split at eg
  · obtain ⟨v, rfl, r⟩ := rs.one
    obtain ⟨a, vs, rfl, ha, _, l, _⟩ := r.lst I.ops
    cases en : toInts _ with
    | none => rw [en] at eg; cases eg
    | some ns =>
      rw [en] at eg
      simp only [Option.bind_some] at eg
      split at eg
      · rename_i hn
        cases eg
        refine ⟨a, ns, rfl, l.ints en ▸ SqL.of ha, hn, fun m h1 h2 => ?_⟩
        obtain ⟨k1, k2⟩ := maxI_spec hn
        have e : m = maxI ns := Int.le_antisymm (k2 m h1) (h2 _ k1)
        rw [e]
        exact q _ H .refl I.sm (.int _)
      · cases eg
  · cases eg
theorem cs_min {K : PySem.W.Frag} : CS (rMin K) gMin := by
  intro O P H S vs ds z Q I rs eg q
  unfold gMin at eg
  split at eg
  · obtain ⟨v, rfl, r⟩ := rs.one
    obtain ⟨a, vs, rfl, ha, _, l, _⟩ := r.lst I.ops
    cases en : toInts _ with
    | none => rw [en] at eg; cases eg
    | some ns =>
      rw [en] at eg
      simp only [Option.bind_some] at eg
      split at eg
      · rename_i hn
        cases eg
        refine ⟨a, ns, rfl, l.ints en ▸ SqL.of ha, hn, fun m h1 h2 => ?_⟩
        obtain ⟨k1, k2⟩ := minI_spec hn
        have e : m = minI ns := Int.le_antisymm (h2 _ k1) (k2 m h1)
        rw [e]
        exact q _ H .refl I.sm (.int _)
      · cases eg
  · cases eg
/-- list(..), tuple(..) of a list, a tuple -/
def gLst : List Dat → Option Dat
  | [.lst ds] => some (.lst ds)
  | [.tup ds] => some (.lst ds)
  | _ => none
def gTupOf : List Dat → Option Dat
  | [.lst ds] => some (.tup ds)
  | [.tup ds] => some (.tup ds)
  | _ => none
theorem cn_list {K : PySem.W.Frag} : CN (fun xs H Q => ∃ p ys, xs = [.ref p] ∧ (SqL K H p ys ∨ SqT K H p ys) ∧ ∀ l, H l = none → Q (.ref l) (upd H l (.lst ys))) gLst := by
  intro O P H S vs ds z Q I rs eg q
  unfold gLst at eg
  split at eg
  · cases eg
    obtain ⟨v, rfl, r⟩ := rs.one
    obtain ⟨a, vs, rfl, ha, hz, l, _⟩ := r.lst I.ops
    exact ⟨a, vs, rfl, .inl (SqL.of ha), fun p n => q p _ n (.new n) (I.sm.new n) (own_new n hz l)⟩
  · cases eg
    obtain ⟨v, rfl, r⟩ := rs.one
    obtain ⟨a, vs, rfl, ha, hz, l, _⟩ := r.tup
    exact ⟨a, vs, rfl, .inr ha.sq, fun p n => q p _ n (.new n) (I.sm.new n) (own_new n hz l)⟩
  · cases eg
theorem cs_tuple {K : PySem.W.Frag} : CS (rTupF K) gTupOf := by
  intro O P H S vs ds z Q I rs eg q
  unfold gTupOf at eg
  split at eg
  · cases eg
    obtain ⟨v, rfl, r⟩ := rs.one
    obtain ⟨a, vs, rfl, ha, hz, l, _⟩ := r.lst I.ops
    exact ⟨a, vs, rfl, .inl ⟨SqL.of ha, fun p ob n d => q _ _ (.new n) (I.sm.new n) (.tup (.new d) (not_own I n) hz (repL_new l n))⟩⟩
  · cases eg
    obtain ⟨v, rfl, r⟩ := rs.one
    obtain ⟨a, vs, rfl, ha, hz, l, na⟩ := r.tup
    exact ⟨a, vs, rfl, .inr ⟨ha.sq, q _ H .refl I.sm (.tup ha na hz l)⟩⟩
  · cases eg
section
variable {X : Cx} {x : Str} {p pos : Pos} {e : Expr} {es : List Expr} {t : TA} {ml : ML} {id T : String} {r : List V → Hp → VK → Prop} {g : List Dat → Option Dat}
theorem pd_b (hc : CallR X (.builtin id) r) (hs : CS r g) (hg : Gl X x) (hm : X.mg x = none) (hv : bootBuiltins x = some (.builtin id)) (ha : PDAB X (e :: es) t ml) (hn : x ≠ "__name__" := by decide) (hdb : (x == ("__debug__" : Str)) = false := by decide)
    (he : starEach (e :: es) X.env = (false, eval e X.env) :: starEach es X.env := by rfl) (hpl : (backTo pos (starEach es X.env)).any (·.1) = false := by rfl) : PDE X (.Call (.Name x p) (e :: es) [] pos) (tCB r t) (mB g ml) :=
  ⟨pe_callB hc hg hm hv ha.pa hn hdb he hpl, se_cb hs ha.sem⟩
theorem pd_ty (hc : CallR X (.type T) r) (hs : CS r g) (hg : Gl X x) (hm : X.mg x = none) (hv : bootBuiltins x = some (.type T)) (ha : PDAB X (e :: es) t ml) (hn : x ≠ "__name__" := by decide) (hdb : (x == ("__debug__" : Str)) = false := by decide)
    (he : starEach (e :: es) X.env = (false, eval e X.env) :: starEach es X.env := by rfl) (hpl : (backTo pos (starEach es X.env)).any (·.1) = false := by rfl) : PDE X (.Call (.Name x p) (e :: es) [] pos) (tCB r t) (mB g ml) :=
  ⟨pe_callTy hc hg hm hv ha.pa hn hdb he hpl, se_cb hs ha.sem⟩
theorem pn_b (hc : CallR X (.builtin id) r) (hs : CN r g) (hg : Gl X x) (hm : X.mg x = none) (hv : bootBuiltins x = some (.builtin id)) (ha : PDAB X (e :: es) t ml) (hn : x ≠ "__name__" := by decide) (hdb : (x == ("__debug__" : Str)) = false := by decide)
    (he : starEach (e :: es) X.env = (false, eval e X.env) :: starEach es X.env := by rfl) (hpl : (backTo pos (starEach es X.env)).any (·.1) = false := by rfl) : PDN X (.Call (.Name x p) (e :: es) [] pos) (tCB r t) (mB g ml) :=
  ⟨pe_callB hc hg hm hv ha.pa hn hdb he hpl, sn_cb hs ha.sem⟩
theorem pn_ty (hc : CallR X (.type T) r) (hs : CN r g) (hg : Gl X x) (hm : X.mg x = none) (hv : bootBuiltins x = some (.type T)) (ha : PDAB X (e :: es) t ml) (hn : x ≠ "__name__" := by decide) (hdb : (x == ("__debug__" : Str)) = false := by decide)
    (he : starEach (e :: es) X.env = (false, eval e X.env) :: starEach es X.env := by rfl) (hpl : (backTo pos (starEach es X.env)).any (·.1) = false := by rfl) : PDN X (.Call (.Name x p) (e :: es) [] pos) (tCB r t) (mB g ml) :=
  ⟨pe_callTy hc hg hm hv ha.pa hn hdb he hpl, sn_cb hs ha.sem⟩
end
/-! ### isinstance -/
def Dat.ty : Dat → Option String
  | .non => some "NoneType"
  | .bl _ => some "bool"
  | .int _ => some "int"
  | .str _ => some "str"
  | .tup _ => some "tuple"
  | .lst _ => some "list"
  | .dk _ => some "dict"
  | .dt _ => none
  | .ob _ _ => none
  | .strm => none
def isTy (T : String) (d : Dat) : Option Bool := d.ty.bind fun t => kitB t T
theorem RepB.tyX {K : PySem.W.Frag} {O : Addr → Prop} {P : Fix} {H : Hp} {v : V} {d : Dat} {t : String} (o : O P.ps) (r : RepB O P H v d) (e : d.ty = some t) : TyX K H v (.type t) := by
  cases d with
  | non => cases r.non; cases e; exact .base .non
  | bl b => cases r.bl; cases e; exact .base (.bl b)
  | int b => cases r.int; cases e; exact .base (.int b)
  | str b => obtain ⟨rfl, _⟩ := r.str; cases e; exact .base (.str b)
  | tup ds => obtain ⟨a, vs, rfl, ⟨_, _, h⟩, _⟩ := r.tup; cases e; exact .fTuple h
  | lst ds => obtain ⟨a, vs, rfl, h, _⟩ := r.lst o; cases e; exact .base (.lst h)
  | dk ds =>
    cases e
    rcases r with r | ⟨p, rfl, _, _, vs, h, _⟩
    · cases r with
      | dk h _ _ _ =>
        rcases h with h | ⟨ob, h⟩
        · exact .base (.dK h)
        · exact .fDict h
    · exact .base (.dK h)
  | dt ds => cases e
  | ob c fs => cases e
  | strm => cases e
/-- isinstance(e, T), T a built-in type by its name -/
def mIs (T : String) (a : M) : M := fun env S => (a env S).bind fun r => (isTy T r.1).map fun b => (.bl b, r.2)
theorem se_isi {K : PySem.W.Frag} {T : String} {te : TE} {a : M} (h : SB te a) : SE (tCB (rIsi K) (tCons te (tCons (tC (.ty T)) tNil))) (mIs T a) := by
  intro O P σ H env S r Q I e q
  unfold mIs at e
  cases ea : a env S with
  | none => rw [ea] at e; cases e
  | some x =>
    rw [ea] at e
    simp only [Option.bind_some] at e
    cases eb : isTy T x.1 with
    | none => rw [eb] at e; cases e
    | some b =>
      rw [eb] at e
      cases e
      unfold isTy at eb
      cases et : x.1.ty with
      | none => rw [et] at eb; cases eb
      | some t =>
        rw [et] at eb
        exact h O P σ H env S x _ I ea fun v H' f s rx => ⟨v, .ty T, .type t, .type T, b, rfl, .ty T, rx.tyX I.ops et, kit_ty eb, q _ H' f s (.bl b)⟩
theorem pd_isi {X : Cx} {T : String} {n : Str} {e : Expr} {te : TE} {a : M} {p p2 pos : Pos} (h : PDB X e te a) (hg : Gl X "isinstance") (hm : X.mg "isinstance" = none) (hg2 : Gl X n) (hm2 : X.mg n = none) (hv2 : bootBuiltins n = some (.type T)) (hv : bootBuiltins "isinstance" = some (.builtin "isinstance"))
    (hn : n ≠ "__name__" := by decide) (hd : (n == ("__debug__" : Str)) = false := by decide)
    (hs : starEach (e :: [.Name n p2]) X.env = (false, eval e X.env) :: starEach [.Name n p2] X.env := by rfl) (hpl : (backTo pos (starEach [.Name n p2] X.env)).any (·.1) = false := by rfl) :
    PDE X (.Call (.Name "isinstance" p) [e, .Name n p2] [] pos) (tCB (rIsi X.K) (tCons te (tCons (tC (.ty T)) tNil))) (mIs T a) :=
  ⟨pe_callB call_isi hg hm hv (pa_cons h.pe (pa_cons (pe_bltn (v := .ty T) hg2 hm2 hv2 rfl hn hd) pa_nil) hs) (by decide) (by decide) hs hpl, se_isi h.sem⟩
end PD

namespace PD
open PySem PySem.Spec PyProof.Rows L2
/-! ### methods of texts -/
def MS (r : V → List V → Hp → VK → Prop) (g : Str → List Dat → Option Dat) : Prop := ∀ (O : Addr → Prop) (P : Fix) (H : Hp) (S : Sm) (x : Str) (vs : List V) (ds : List Dat) (z : Dat) (Q : VK), HI O P H S → x.length ≤ sizeLine → RepBL O P H vs ds → g x ds = some z →
  (∀ v H', Fr P H H' → StrmAt P H' S → Rep O P.ps H' v z → Q v H') → r (.str x) vs H Q
def mM (g : Str → List Dat → Option Dat) (a : M) (b : ML) : M := fun env S => (a env S).bind fun x => match x.1 with
  | .str z => (b env x.2).bind fun y => (g z y.1).map fun w => (w, y.2)
  | _ => none
theorem se_m {K : PySem.W.Frag} {r : V → List V → Hp → VK → Prop} {g : Str → List Dat → Option Dat} {te : TE} {t : TA} {a : M} {b : ML} (hr : MS r g) (ha : SE te a) (hb : SAB t b) : SE (tBM K "str" r te t) (mM g a b) := by
  intro O P σ H env S w Q I e q
  unfold mM at e
  cases ea : a env S with
  | none => rw [ea] at e; cases e
  | some x =>
    rw [ea] at e
    simp only [Option.bind_some] at e
    split at e
    · rename_i z hz
      refine ha O P σ H env S x _ I ea fun v H' f s rx => ?_
      rw [hz] at rx
      cases rx with
      | str _ hl =>
      refine ⟨rfl, ?_⟩
      cases eb : b env x.2 with
      | none => rw [eb] at e; cases e
      | some y =>
        rw [eb] at e
        simp only [Option.bind_some] at e
        cases eg : g z y.1 with
        | none => rw [eg] at e; cases e
        | some u =>
          rw [eg] at e
          cases e
          have I1 := I.fr f s
          exact hb O P σ H' env x.2 y _ I1 eb fun vs H2 f2 s2 rs => hr O P H2 y.2 z vs y.1 u Q (I1.fr f2 s2).hi hl rs eg fun v H3 f3 s3 rv => q v H3 ((f.trans f2).trans f3) s3 rv
    · cases e
theorem se_m0 {K : PySem.W.Frag} {r : V → List V → Hp → VK → Prop} {g : Str → List Dat → Option Dat} {te : TE} {a : M} (hr : MS r g) (ha : SE te a) : SE (tBM0 K "str" r te) (mM g a mNil) := by
  intro O P σ H env S w Q I e q
  unfold mM at e
  cases ea : a env S with
  | none => rw [ea] at e; cases e
  | some x =>
    rw [ea] at e
    simp only [Option.bind_some] at e
    split at e
    · rename_i z hz
      refine ha O P σ H env S x _ I ea fun v H' f s rx => ?_
      rw [hz] at rx
      cases rx with
      | str _ hl =>
      refine ⟨rfl, ?_⟩
      simp only [mNil, Option.bind_some] at e
      cases eg : g z [] with
      | none => rw [eg] at e; cases e
      | some u =>
        rw [eg] at e
        cases e
        exact hr O P H' x.2 z [] [] u Q (I.fr f s).hi hl .nil eg fun v H3 f3 s3 rv => q v H3 (f.trans f3) s3 rv
    · cases e
def joinLen (a : Str) (ys : List Str) : Nat := (ys.map (·.length)).sum + ys.length * a.length
def joinS (a : Str) (ys : List Str) : Str := Txt.join a ys
def gJoin : Str → List Dat → Option Dat
  | a, [.lst ds] => (toStrs ds).bind fun ys => if joinLen a ys ≤ 16777216 ∧ (joinS a ys).length ≤ 16777216 then some (.str (joinS a ys)) else none
  | a, [.tup ds] => (toStrs ds).bind fun ys => if joinLen a ys ≤ 16777216 ∧ (joinS a ys).length ≤ 16777216 then some (.str (joinS a ys)) else none
  | _, _ => none
theorem ms_join {K : PySem.W.Frag} : MS (fun x xs H Q => ∃ a p, ∃ ys : List Str, x = .str a ∧ xs = [.ref p] ∧ (SqL K H p (ys.map V.str) ∨ SqT K H p (ys.map V.str)) ∧
    (ys.map (·.length)).sum + ys.length * a.length ≤ 16777216 ∧ Q (.str (Txt.join a ys)) H) gJoin := by
  intro O P H S x vs ds z Q I hl rs eg q
  unfold gJoin at eg
  split at eg
  · obtain ⟨v, rfl, r⟩ := rs.one
    obtain ⟨a, vs, rfl, ha, _, l, _⟩ := r.lst I.ops
    cases en : toStrs _ with
    | none => rw [en] at eg; cases eg
    | some ys =>
      rw [en] at eg
      simp only [Option.bind_some] at eg
      split at eg
      · rename_i hh
        cases eg
        exact ⟨_, a, ys, rfl, rfl, .inl (l.strs en ▸ SqL.of ha), hh.1, q _ H .refl I.sm (.str _ (Nat.le_trans hh.2 (by decide)))⟩
      · cases eg
  · obtain ⟨v, rfl, r⟩ := rs.one
    obtain ⟨a, vs, rfl, ha, _, l, _⟩ := r.tup
    cases en : toStrs _ with
    | none => rw [en] at eg; cases eg
    | some ys =>
      rw [en] at eg
      simp only [Option.bind_some] at eg
      split at eg
      · rename_i hh
        cases eg
        exact ⟨_, a, ys, rfl, rfl, .inr (l.strs en ▸ ha.sq), hh.1, q _ H .refl I.sm (.str _ (Nat.le_trans hh.2 (by decide)))⟩
      · cases eg
  · cases eg
def gStarts : Str → List Dat → Option Dat
  | a, [.str b] => some (.bl (Txt.startswith a b))
  | a, [.str b, .int i] => some (.bl (Txt.startswith3 a b i))
  | _, _ => none
def rStarts : V → List V → Hp → VK → Prop := fun x xs H Q => (∃ a b, x = .str a ∧ xs = [.str b] ∧ Q (.bl (Txt.startswith a b)) H) ∨ ∃ (a b : Str) (i : Int), x = .str a ∧ xs = [.str b, .int i] ∧ Q (.bl (Txt.startswith3 a b i)) H
theorem mt_starts {X : Cx} : MtR X "str.startswith" rStarts := mt_startswith.or mt_startswith3
theorem ms_starts : MS rStarts gStarts := by
  intro O P H S x vs ds z Q I hl rs eg q
  unfold gStarts at eg
  split at eg
  · cases eg
    obtain ⟨v, rfl, r⟩ := rs.one
    obtain ⟨rfl, _⟩ := r.str
    exact .inl ⟨_, _, rfl, rfl, q _ H .refl I.sm (.bl _)⟩
  · cases eg
    obtain ⟨v, u, rfl, r, ru⟩ := rs.two
    obtain ⟨rfl, _⟩ := r.str
    cases ru.int
    exact .inr ⟨_, _, _, rfl, rfl, q _ H .refl I.sm (.bl _)⟩
  · cases eg
section
variable {X : Cx} {o e : Expr} {es : List Expr} {to : TE} {t : TA} {a : M} {b : ML} {name : Str} {apos cpos : Pos} {id : String} {r : V → List V → Hp → VK → Prop} {g : Str → List Dat → Option Dat}
theorem pd_m (slot : Slot "str" name id) (hty : typeOf (.builtin id) = pure (.type "method_descriptor")) (hm : MtR X id r) (hs : MS r g) (ho : PDE X o to a) (ha : PDAB X (e :: es) t b)
    (hbase : attributeBase o name X.env (eval o X.env) = eval o X.env := by rfl)
    (hfew : ((backTo cpos (starEach (e :: es) X.env)).all (fun x => !x.1) && (backToKw cpos (keywordEach [] X.env)).all (fun x => x.1.isSome)
      && decide ((e :: es).length + ([] : List Keyword).length + (if ([] : List Keyword).isEmpty then 0 else 1) < 30)) = true := by rfl)
    (hline : (apos.endLine == cpos.line) = true := by rfl) (hs' : starEach (e :: es) X.env = (false, eval e X.env) :: starEach es X.env := by rfl) (hplain : (backTo cpos (starEach es X.env)).any (·.1) = false := by rfl) :
    PDE X (.Call (.Attribute o name apos) (e :: es) [] cpos) (tBM X.K "str" r to t) (mM g a b) := ⟨pe_bm PySem.F.plainAttrs_str slot hty hm ho.pe ha.pa hbase hfew hline hs' hplain, se_m hs ho.sem ha.sem⟩
theorem pd_m0 (slot : Slot "str" name id) (hty : typeOf (.builtin id) = pure (.type "method_descriptor")) (hm : MtR X id r) (hs : MS r g) (ho : PDE X o to a)
    (hbase : attributeBase o name X.env (eval o X.env) = eval o X.env := by rfl) (hline : (apos.endLine == cpos.line) = true := by rfl) :
    PDE X (.Call (.Attribute o name apos) [] [] cpos) (tBM0 X.K "str" r to) (mM g a mNil) := ⟨pe_bm0 PySem.F.plainAttrs_str slot hty hm ho.pe hbase hline, se_m0 hs ho.sem⟩
end
/-! ### what is walked -/
structure ItOk (ps : Addr) (Rl : (Addr → Prop) → Hp → Prop) (J : It) (ds : List Dat) : Prop where
  go : ∀ O' H' i, Rl O' H' → i < ds.length → J.go i H'
  yld : ∀ O' H' i x H'' d, Rl O' H' → ds[i]? = some d → J.yld i H' x H'' → Same H' H'' ∧ Rep O' ps H'' x d
  stop : ∀ O' H', Rl O' H' → J.stop ds.length H'
  sz : ds.length ≤ sizeLine
/-- a later state within a comprehension; behind statements -/
def Lt1 (O : Addr → Prop) (P : Fix) (H : Hp) : (Addr → Prop) → Hp → Prop := fun O' H' => Tr O H O' H' ∧ Fr P H H' ∧ ∀ a, O' a → H' a ≠ none
def Lt2 (O : Addr → Prop) (H : Hp) : (Addr → Prop) → Hp → Prop := fun O' H' => Tr O H O' H' ∧ ∀ a, O' a → H' a ≠ none
theorem it_list {K : PySem.W.Frag} {ps a : Addr} {Rl : (Addr → Prop) → Hp → Prop} {vs : List V} {ds : List Dat} (hz : vs.length ≤ sizeLine) (hn : vs.length = ds.length) (hl : ∀ O' H', Rl O' H' → H' a = some (.lst vs) ∧ RepL O' ps H' vs ds) : ItOk ps Rl (Itl K a) ds where
  go := fun O' H' i h hi => by
    obtain ⟨h1, h2⟩ := hl O' H' h
    have hi' : i < vs.length := by rw [h2.len]; exact hi
    exact ⟨vs, vs[i], SqL.of h1, List.getElem?_eq_getElem hi'⟩
  yld := fun O' H' i x H'' d h hd hy => by
    obtain ⟨h1, h2⟩ := hl O' H' h
    obtain ⟨rfl, hx⟩ := hy
    obtain ⟨v, e1, e2⟩ := h2.get hd
    have e3 := hx vs (SqL.of h1)
    rw [e1] at e3
    cases e3
    exact ⟨.refl _, e2⟩
  stop := fun O' H' h => by
    obtain ⟨h1, h2⟩ := hl O' H' h
    exact ⟨vs, SqL.of h1, by rw [h2.len]; exact Nat.le_refl _⟩
  sz := by rw [← hn]; exact hz
theorem it_tup {K : PySem.W.Frag} {ps a : Addr} {Rl : (Addr → Prop) → Hp → Prop} {vs : List V} {ds : List Dat} (hz : vs.length ≤ sizeLine) (hn : vs.length = ds.length) (hl : ∀ O' H', Rl O' H' → TupAt H' a vs ∧ RepL O' ps H' vs ds) : ItOk ps Rl (Itt K a) ds where
  go := fun O' H' i h hi => by
    obtain ⟨h1, h2⟩ := hl O' H' h
    have hi' : i < vs.length := by rw [h2.len]; exact hi
    exact ⟨vs, vs[i], h1.sq, List.getElem?_eq_getElem hi'⟩
  yld := fun O' H' i x H'' d h hd hy => by
    obtain ⟨h1, h2⟩ := hl O' H' h
    obtain ⟨rfl, hx⟩ := hy
    obtain ⟨v, e1, e2⟩ := h2.get hd
    have e3 := hx vs h1.sq
    rw [e1] at e3
    cases e3
    exact ⟨.refl _, e2⟩
  stop := fun O' H' h => by
    obtain ⟨h1, h2⟩ := hl O' H' h
    exact ⟨vs, h1.sq, by rw [h2.len]; exact Nat.le_refl _⟩
  sz := by rw [← hn]; exact hz
def signsD (x : Str) : List Dat := x.cps.toList.map fun c => .str ⟨#[c]⟩
theorem it_str {ps : Addr} {Rl : (Addr → Prop) → Hp → Prop} {x : Str} (hz : x.length ≤ sizeLine) : ItOk ps Rl (Its x) (signsD x) where
  go := fun O' H' i h hi => by
    show i < x.cps.size
    unfold signsD at hi
    rw [List.length_map, Array.length_toList] at hi
    exact hi
  yld := fun O' H' i v H'' d h hd hy => by
    obtain ⟨rfl, c, hc, rfl⟩ := hy
    unfold signsD at hd
    rw [List.getElem?_map, Array.getElem?_toList, hc] at hd
    cases hd
    exact ⟨.refl _, .str _ (by show 1 ≤ sizeLine; decide)⟩
  stop := fun O' H' h => by
    show x.cps.size ≤ _
    unfold signsD
    rw [List.length_map, Array.length_toList]
    exact Nat.le_refl _
  sz := by
    unfold signsD
    rw [List.length_map, Array.length_toList]
    exact hz
def rngD (lo : Int) (n : Nat) : List Dat := (List.range n).map fun (i : Nat) => .int (lo + i)
theorem it_rng {ps : Addr} {Rl : (Addr → Prop) → Hp → Prop} {lo : Int} {n : Nat} (hz : n ≤ 100000) : ItOk ps Rl (Itr lo n) (rngD lo n) where
  go := fun O' H' i h hi => by
    show i < n
    unfold rngD at hi
    rw [List.length_map, List.length_range] at hi
    exact hi
  yld := fun O' H' i v H'' d h hd hy => by
    obtain ⟨rfl, rfl⟩ := hy
    unfold rngD at hd
    rw [List.getElem?_map] at hd
    cases e : (List.range n)[i]? with
    | none => rw [e] at hd; cases hd
    | some j =>
      rw [e] at hd
      cases hd
      obtain ⟨h1, h2⟩ := List.getElem?_eq_some_iff.mp e
      rw [List.getElem_range] at h2
      subst h2
      exact ⟨.refl _, .int _⟩
  stop := fun O' H' h => by
    show n ≤ _
    unfold rngD
    rw [List.length_map, List.length_range]
    exact Nat.le_refl _
  sz := by
    unfold rngD
    rw [List.length_map, List.length_range]
    exact Nat.le_trans hz (by decide)
def rngC (lo c : Int) (n : Nat) : List Dat := (List.range n).map fun (i : Nat) => .int (lo + i * c)
theorem it_rngC {ps : Addr} {Rl : (Addr → Prop) → Hp → Prop} {lo c : Int} {n : Nat} (hz : n ≤ 100000) : ItOk ps Rl (Itc lo c n) (rngC lo c n) where
  go := fun O' H' i h hi => by
    show i < n
    unfold rngC at hi
    rw [List.length_map, List.length_range] at hi
    exact hi
  yld := fun O' H' i v H'' d h hd hy => by
    obtain ⟨rfl, rfl⟩ := hy
    unfold rngC at hd
    rw [List.getElem?_map] at hd
    cases e : (List.range n)[i]? with
    | none => rw [e] at hd; cases hd
    | some j =>
      rw [e] at hd
      cases hd
      obtain ⟨h1, h2⟩ := List.getElem?_eq_some_iff.mp e
      rw [List.getElem_range] at h2
      subst h2
      exact ⟨.refl _, .int _⟩
  stop := fun O' H' h => by
    show n ≤ _
    unfold rngC
    rw [List.length_map, List.length_range]
    exact Nat.le_refl _
  sz := by
    unfold rngC
    rw [List.length_map, List.length_range]
    exact Nat.le_trans hz (by decide)
def SI (wi : TI) (m : ML) : Prop := ∀ (O : Addr → Prop) (P : Fix) (σ : L2.St) (H : Hp) (env : DEnv) (S : Sm) (r : List Dat × Sm) (R : It → Hp → Prop), EI O P σ H env S → m env S = some r →
  (∀ J H1, Fr P H H1 → StrmAt P H1 r.2 → ItOk P.ps (Lt1 O P H1) J r.1 → R J H1) → wi σ H R
def SF (wi : TI) (m : ML) : Prop := ∀ (O : Addr → Prop) (P : Fix) (σ : L2.St) (H : Hp) (env : DEnv) (S : Sm) (r : List Dat × Sm) (R : It → Hp → Prop), EI O P σ H env S → m env S = some r →
  (∀ J H1, Fr P H H1 → StrmAt P H1 r.2 → ItOk P.ps (Lt2 O H1) J r.1 → R J H1) → wi σ H R
structure PDI (X : Cx) (tg e : Expr) (wi : TI) (m : ML) : Prop where
  pi : PI X tg e wi
  sem : SI wi m
structure PDF (X : Cx) (tg e : Expr) (wi : TI) (m : ML) : Prop where
  pi : PI X tg e wi
  sem : SF wi m
theorem PI.or {X : Cx} {tg e : Expr} {w1 w2 : TI} (h1 : PI X tg e w1) (h2 : PI X tg e w2) : PI X tg e (fun σ H R => w1 σ H R ∨ w2 σ H R) := ⟨fun pins s σ H R I h => h.elim (h1.run pins s σ H R I) (h2.run pins s σ H R I)⟩
def itemsD : Dat → Option (List Dat)
  | .lst ds => some ds
  | .tup ds => some ds
  | .str x => some (signsD x)
  | _ => none
def mIt (a : M) : ML := fun env S => (a env S).bind fun r => (itemsD r.1).map fun ds => (ds, r.2)
def iAny (K : PySem.W.Frag) (te : TE) : TI := fun σ H R => iList K te σ H R ∨ (iTup K te σ H R ∨ iStr te σ H R)
theorem si_any {K : PySem.W.Frag} {te : TE} {a : M} (h : SB te a) : SI (iAny K te) (mIt a) := by
  intro O P σ H env S r R I e q
  unfold mIt at e
  cases ea : a env S with
  | none => rw [ea] at e; cases e
  | some x =>
    rw [ea] at e
    simp only [Option.bind_some] at e
    unfold itemsD at e
    split at e
    · rename_i ds hd
      cases e
      refine .inl (h O P σ H env S x _ I ea fun v H' f s rx => ?_)
      rw [hd] at rx
      obtain ⟨b, vs, rfl, hb, zz, l, nb⟩ := rx.lst I.ops
      refine ⟨b, rfl, ⟨vs, SqL.of hb⟩, q _ H' f s (it_list (vs := vs) (by assumption) l.len fun O' H2 hr => ?_)⟩
      exact ⟨hr.2.1 b _ nb hb, l.tr hr.1⟩
    · rename_i ds hd
      cases e
      refine .inr (.inl (h O P σ H env S x _ I ea fun v H' f s rx => ?_))
      rw [hd] at rx
      obtain ⟨b, vs, rfl, hb, zz, l, nb⟩ := rx.tup
      refine ⟨b, rfl, ⟨vs, hb.sq⟩, q _ H' f s (it_tup (vs := vs) (by assumption) l.len fun O' H2 hr => ?_)⟩
      exact ⟨(hr.1.tup hb nb).2, l.tr hr.1⟩
    · rename_i t hd
      cases e
      refine .inr (.inr (h O P σ H env S x _ I ea fun v H' f s rx => ?_))
      rw [hd] at rx
      obtain ⟨rfl, hz⟩ := rx.str
      exact ⟨_, rfl, q _ H' f s (it_str hz)⟩
    · cases e
theorem sf_any {K : PySem.W.Frag} {te : TE} {a : M} (h : SE te a) : SF (iAny K te) (mIt a) := by
  intro O P σ H env S r R I e q
  unfold mIt at e
  cases ea : a env S with
  | none => rw [ea] at e; cases e
  | some x =>
    rw [ea] at e
    simp only [Option.bind_some] at e
    unfold itemsD at e
    split at e
    · rename_i ds hd
      cases e
      refine .inl (h O P σ H env S x _ I ea fun v H' f s rx => ?_)
      rw [hd] at rx
      cases rx with
      | @lst b vs ds' hb nb hz l =>
      refine ⟨b, rfl, ⟨vs, SqL.of hb⟩, q _ H' f s (it_list (vs := vs) (by assumption) l.len fun O' H2 hr => ?_)⟩
      exact ⟨(hr.1.sq b (.lst vs) trivial nb hb).2, l.tr hr.1⟩
    · rename_i ds hd
      cases e
      refine .inr (.inl (h O P σ H env S x _ I ea fun v H' f s rx => ?_))
      rw [hd] at rx
      cases rx with
      | @tup b vs ds' hb nb hz l =>
      refine ⟨b, rfl, ⟨vs, hb.sq⟩, q _ H' f s (it_tup (vs := vs) (by assumption) l.len fun O' H2 hr => ?_)⟩
      exact ⟨(hr.1.tup hb nb).2, l.tr hr.1⟩
    · rename_i t hd
      cases e
      refine .inr (.inr (h O P σ H env S x _ I ea fun v H' f s rx => ?_))
      rw [hd] at rx
      cases rx with
      | str _ hz => exact ⟨_, rfl, q _ H' f s (it_str hz)⟩
    · cases e
/-- range(n), range(a, b) -/
def rng62 (i : Int) : Bool := decide (-(2 ^ 62) ≤ i) && decide (i < 2 ^ 62)
theorem rng62_of {i : Int} (h : rng62 i = true) : -(2 ^ 62) ≤ i ∧ i < 2 ^ 62 := by
  unfold rng62 at h
  rw [Bool.and_eq_true, decide_eq_true_eq, decide_eq_true_eq] at h
  exact h
def rngOf : List Dat → Option (List Dat)
  | [.int j] => if (rng62 j && decide (j.toNat ≤ 100000)) = true then some (rngD 0 j.toNat) else none
  | [.int i, .int j] => if ((rng62 i && rng62 j) && decide ((j - i).toNat ≤ 100000)) = true then some (rngD i (j - i).toNat) else none
  | _ => none
def mRng1 (a : ML) : ML := fun env S => (a env S).bind fun r => match r.1 with
  | [_] => (rngOf r.1).map fun ds => (ds, r.2)
  | _ => none
def mRng2 (a : ML) : ML := fun env S => (a env S).bind fun r => match r.1 with
  | [_, _] => (rngOf r.1).map fun ds => (ds, r.2)
  | _ => none
theorem si_rng1 {ta : TA} {a : ML} (h : SAB ta a) : SI (iRng1 ta) (mRng1 a) := by
  intro O P σ H env S r R I e q
  unfold mRng1 at e
  cases ea : a env S with
  | none => rw [ea] at e; cases e
  | some x =>
    rw [ea] at e
    simp only [Option.bind_some] at e
    split at e
    · rename_i d hd
      refine h O P σ H env S x _ I ea fun vs H' f s rs => ?_
      rw [hd] at rs
      obtain ⟨v, rfl, rv⟩ := rs.one
      rw [hd] at e
      unfold rngOf at e
      split at e
      · rename_i j hj
        cases hj
        split at e
        · rename_i hb
          rw [Bool.and_eq_true, decide_eq_true_eq] at hb
          cases e
          cases rv.int
          exact ⟨j, rfl, (rng62_of hb.1).1, (rng62_of hb.1).2, q _ H' f s (it_rng hb.2)⟩
        · cases e
      · rename_i hj; cases hj
      · cases e
    · cases e
theorem sf_rng1 {ta : TA} {a : ML} (h : SAB ta a) : SF (iRng1 ta) (mRng1 a) := by
  intro O P σ H env S r R I e q
  unfold mRng1 at e
  cases ea : a env S with
  | none => rw [ea] at e; cases e
  | some x =>
    rw [ea] at e
    simp only [Option.bind_some] at e
    split at e
    · rename_i d hd
      refine h O P σ H env S x _ I ea fun vs H' f s rs => ?_
      rw [hd] at rs
      obtain ⟨v, rfl, rv⟩ := rs.one
      rw [hd] at e
      unfold rngOf at e
      split at e
      · rename_i j hj
        cases hj
        split at e
        · rename_i hb
          rw [Bool.and_eq_true, decide_eq_true_eq] at hb
          cases e
          cases rv.int
          exact ⟨j, rfl, (rng62_of hb.1).1, (rng62_of hb.1).2, q _ H' f s (it_rng hb.2)⟩
        · cases e
      · rename_i hj; cases hj
      · cases e
    · cases e
theorem si_rng2 {ta : TA} {a : ML} (h : SAB ta a) : SI (iRng2 ta) (mRng2 a) := by
  intro O P σ H env S r R I e q
  unfold mRng2 at e
  cases ea : a env S with
  | none => rw [ea] at e; cases e
  | some x =>
    rw [ea] at e
    simp only [Option.bind_some] at e
    split at e
    · rename_i d d2 hd
      refine h O P σ H env S x _ I ea fun vs H' f s rs => ?_
      rw [hd] at rs
      obtain ⟨v, u, rfl, rv, ru⟩ := rs.two
      rw [hd] at e
      unfold rngOf at e
      split at e
      · rename_i hj; cases hj
      · rename_i i j hj
        cases hj
        split at e
        · rename_i hb
          rw [Bool.and_eq_true, Bool.and_eq_true, decide_eq_true_eq] at hb
          cases e
          cases rv.int
          cases ru.int
          exact ⟨i, j, rfl, ⟨(rng62_of hb.1.1).1, (rng62_of hb.1.1).2, (rng62_of hb.1.2).1, (rng62_of hb.1.2).2⟩, q _ H' f s (it_rng hb.2)⟩
        · cases e
      · cases e
    · cases e
theorem sf_rng2 {ta : TA} {a : ML} (h : SAB ta a) : SF (iRng2 ta) (mRng2 a) := by
  intro O P σ H env S r R I e q
  unfold mRng2 at e
  cases ea : a env S with
  | none => rw [ea] at e; cases e
  | some x =>
    rw [ea] at e
    simp only [Option.bind_some] at e
    split at e
    · rename_i d d2 hd
      refine h O P σ H env S x _ I ea fun vs H' f s rs => ?_
      rw [hd] at rs
      obtain ⟨v, u, rfl, rv, ru⟩ := rs.two
      rw [hd] at e
      unfold rngOf at e
      split at e
      · rename_i hj; cases hj
      · rename_i i j hj
        cases hj
        split at e
        · rename_i hb
          rw [Bool.and_eq_true, Bool.and_eq_true, decide_eq_true_eq] at hb
          cases e
          cases rv.int
          cases ru.int
          exact ⟨i, j, rfl, ⟨(rng62_of hb.1.1).1, (rng62_of hb.1.1).2, (rng62_of hb.1.2).1, (rng62_of hb.1.2).2⟩, q _ H' f s (it_rng hb.2)⟩
        · cases e
      · cases e
    · cases e
/-- reversed(range(n)) -/
def mRevR (a : M) : ML := fun env S => (a env S).bind fun r => match r.1 with
  | .int j => if (rng62 j && decide ((j - 0).toNat ≤ 100000)) = true then some (rngC (0 + (((j - 0).toNat : Nat) : Int) - 1) (-1) (j - 0).toNat, r.2) else none
  | _ => none
theorem s_revR {te : TE} {a : M} (h : SB te a) : SI (iRevR (tRg1 te)) (mRevR a) ∧ SF (iRevR (tRg1 te)) (mRevR a) := by
  constructor
  all_goals
    intro O P σ H env S r R I e q
    unfold mRevR at e
    cases ea : a env S with
    | none => rw [ea] at e; cases e
    | some x =>
      rw [ea] at e
      simp only [Option.bind_some] at e
      split at e
      · rename_i j hd
        split at e
        · rename_i hb
          rw [Bool.and_eq_true, decide_eq_true_eq] at hb
          cases e
          refine h O P σ H env S x _ I ea fun v H' f s rv => ?_
          rw [hd] at rv
          cases rv.int
          exact ⟨j, rfl, by decide, by decide, (rng62_of hb.1).1, (rng62_of hb.1).2, q _ H' f s (it_rngC hb.2)⟩
        · cases e
      · cases e
section
variable {X : Cx} {tg e b : Expr} {te tb : TE} {a : M} {ml : ML} {ta : TA} {p p2 pos pos2 : Pos}
theorem pi_any (h : PDB X e te a) : PDI X tg e (iAny X.K te) (mIt a) := ⟨PI.or (pi_list h.pe) (PI.or (pi_tup h.pe) (pi_str h.pe)), si_any h.sem⟩
theorem pf_any (h : PDE X e te a) : PDF X tg e (iAny X.K te) (mIt a) := ⟨PI.or (pi_list h.pe) (PI.or (pi_tup h.pe) (pi_str h.pe)), sf_any h.sem⟩
theorem pi_rng1 (hg : Gl X "range") (hm : X.mg "range" = none) (ha : PDAB X [e] ta ml) (hs : starEach [e] X.env = [(false, eval e X.env)] := by rfl) : PDI X tg (.Call (.Name "range" p) [e] [] pos) (iRng1 ta) (mRng1 ml) := ⟨pi_range1 hg hm ha.pa hs, si_rng1 ha.sem⟩
theorem pf_rng1 (hg : Gl X "range") (hm : X.mg "range" = none) (ha : PDAB X [e] ta ml) (hs : starEach [e] X.env = [(false, eval e X.env)] := by rfl) : PDF X tg (.Call (.Name "range" p) [e] [] pos) (iRng1 ta) (mRng1 ml) := ⟨pi_range1 hg hm ha.pa hs, sf_rng1 ha.sem⟩
theorem pi_rng2 (hg : Gl X "range") (hm : X.mg "range" = none) (ha : PDAB X [e, b] ta ml) (hs : starEach [e, b] X.env = [(false, eval e X.env), (false, eval b X.env)] := by rfl) (hs2 : starEach [b] X.env = [(false, eval b X.env)] := by rfl) :
    PDI X tg (.Call (.Name "range" p) [e, b] [] pos) (iRng2 ta) (mRng2 ml) := ⟨pi_range2 hg hm ha.pa hs hs2, si_rng2 ha.sem⟩
theorem pf_rng2 (hg : Gl X "range") (hm : X.mg "range" = none) (ha : PDAB X [e, b] ta ml) (hs : starEach [e, b] X.env = [(false, eval e X.env), (false, eval b X.env)] := by rfl) (hs2 : starEach [b] X.env = [(false, eval b X.env)] := by rfl) :
    PDF X tg (.Call (.Name "range" p) [e, b] [] pos) (iRng2 ta) (mRng2 ml) := ⟨pi_range2 hg hm ha.pa hs hs2, sf_rng2 ha.sem⟩
theorem pi_rev (hg : Gl X "reversed") (hm : X.mg "reversed" = none) (hg2 : Gl X "range") (hm2 : X.mg "range" = none) (h : PDB X e te a) (na : starEach [e] X.env = (false, eval e X.env) :: starEach [] X.env := by rfl)
    (hs : starEach [(.Call (.Name "range" p2) [e] [] pos2 : Expr)] X.env = (false, eval (.Call (.Name "range" p2) [e] [] pos2) X.env) :: starEach [] X.env := by rfl) :
    PDI X tg (.Call (.Name "reversed" p) [.Call (.Name "range" p2) [e] [] pos2] [] pos) (iRevR (tRg1 te)) (mRevR a) := ⟨pi_revR hg hm (prg_1 hg2 hm2 h.pe na) hs, (s_revR h.sem).1⟩
theorem pf_rev (hg : Gl X "reversed") (hm : X.mg "reversed" = none) (hg2 : Gl X "range") (hm2 : X.mg "range" = none) (h : PDB X e te a) (na : starEach [e] X.env = (false, eval e X.env) :: starEach [] X.env := by rfl)
    (hs : starEach [(.Call (.Name "range" p2) [e] [] pos2 : Expr)] X.env = (false, eval (.Call (.Name "range" p2) [e] [] pos2) X.env) :: starEach [] X.env := by rfl) :
    PDF X tg (.Call (.Name "reversed" p) [.Call (.Name "range" p2) [e] [] pos2] [] pos) (iRevR (tRg1 te)) (mRevR a) := ⟨pi_revR hg hm (prg_1 hg2 hm2 h.pe na) hs, (s_revR h.sem).2⟩
end
/-! ### targets -/
def isOw : Option Slo → Bool
  | some (.ow _) => true
  | _ => false
abbrev MG := Dat → DEnv → Option DEnv
abbrev MGs := List Dat → DEnv → Option DEnv
def bNm (i : Nat) : MG := fun d env => match env[i]? with
  | some (.ow _) => none
  | none => none
  | _ => some (env.set i (.fz d))
def bNil : MGs := fun ds env => match ds with
  | [] => some env
  | _ => none
def bCons (b : MG) (c : MGs) : MGs := fun ds env => match ds with
  | d :: r => (b d env).bind fun env1 => c r env1
  | [] => none
def bTup (n : Nat) (c : MGs) : MG := fun d env => match d with
  | .tup ds => if ds.length = n then c ds env else none
  | _ => none
/-- what a target's store changes: slots at ix, none of them owned -/
structure Sets (ix : List Nat) (σ σ' : L2.St) (env env' : DEnv) : Prop where
  len : σ'.length = σ.length
  out : ∀ i, i ∉ ix → σ'[i]? = σ[i]?
  ow : ∀ (i : Nat) e, env'[i]? = some (.ow e) ↔ env[i]? = some (.ow e)
  owS : ∀ (i : Nat) e, env[i]? = some (.ow e) → σ'[i]? = σ[i]?
theorem Sets.refl {ix : List Nat} {σ : L2.St} {env : DEnv} : Sets ix σ σ env env := ⟨rfl, fun _ _ => rfl, fun _ _ => .rfl, fun _ _ _ => rfl⟩
theorem Sets.trans {ix ix' : List Nat} {σ σ1 σ2 : L2.St} {env env1 env2 : DEnv} (a : Sets ix σ σ1 env env1) (b : Sets ix' σ1 σ2 env1 env2) : Sets (ix ++ ix') σ σ2 env env2 :=
  ⟨b.len.trans a.len, fun i h => (b.out i fun q => h (List.mem_append_right _ q)).trans (a.out i fun q => h (List.mem_append_left _ q)), fun i e => (b.ow i e).trans (a.ow i e), fun i e h => (b.owS i e ((a.ow i e).mpr h)).trans (a.owS i e h)⟩
def SG (g : TG) (ix : List Nat) (b : MG) : Prop := ∀ (O : Addr → Prop) (P : Fix) (σ : L2.St) (H : Hp) (env env' : DEnv) (S : Sm) (v : V) (d : Dat) (Q : L2.St → Hp → Prop), EI O P σ H env S → Rep O P.ps H v d → b d env = some env' →
  (∀ σ', EI O P σ' H env' S → Sets ix σ σ' env env' → Q σ' H) → g v σ H Q
def SGs (g : TGs) (ix : List Nat) (b : MGs) : Prop := ∀ (O : Addr → Prop) (P : Fix) (σ : L2.St) (H : Hp) (env env' : DEnv) (S : Sm) (vs : List V) (ds : List Dat) (Q : L2.St → Hp → Prop), EI O P σ H env S → RepL O P.ps H vs ds → b ds env = some env' →
  (∀ σ', EI O P σ' H env' S → Sets ix σ σ' env env' → Q σ' H) → g vs σ H Q
theorem EI.setF {O : Addr → Prop} {P : Fix} {σ : L2.St} {H : Hp} {env : DEnv} {S : Sm} {i : Nat} {v : V} {d : Dat} (I : EI O P σ H env S) (hi : i < env.length) (r : Rep O P.ps H v d) : EI O P (σ.set i (some v)) H (env.set i (.fz d)) S := by
  have hs : i < σ.length := by rw [I.len]; exact hi
  refine ⟨I.ops, I.nq, I.dom, I.sm, by rw [List.length_set, List.length_set]; exact I.len, fun j e h => ?_, fun j e h => ?_⟩
  · by_cases hj : i = j
    · subst hj
      rw [List.getElem?_set_self hi] at h
      cases h
      exact ⟨v, List.getElem?_set_self hs, r⟩
    · rw [List.getElem?_set_ne hj] at h ⊢
      exact I.fz j e h
  · by_cases hj : i = j
    · subst hj
      rw [List.getElem?_set_self hi] at h
      cases h
    · rw [List.getElem?_set_ne hj] at h ⊢
      exact I.ow j e h
theorem sg_nm (i : Nat) : SG (gName i) [i] (bNm i) := by
  intro O P σ H env env' S v d Q I r e q
  unfold bNm at e
  split at e
  · cases e
  · cases e
  · rename_i n1 n2
    cases e
    have hi : i < env.length := by
      by_cases hi : i < env.length
      · exact hi
      · exact (n2 (List.getElem?_eq_none (by omega))).elim
    have hs : i < σ.length := by rw [I.len]; exact hi
    refine q _ (I.setF hi r) ⟨List.length_set, fun j hj => List.getElem?_set_ne fun e => hj (by rw [← e]; exact List.mem_singleton_self _), fun j e => ?_, fun j e h => ?_⟩
    · by_cases hj : i = j
      · subst hj
        rw [List.getElem?_set_self hi]
        exact ⟨(fun z => by cases z), (fun z => (n1 _ z).elim)⟩
      · rw [List.getElem?_set_ne hj]
    · by_cases hj : i = j
      · subst hj
        exact (n1 _ h).elim
      · exact List.getElem?_set_ne hj
theorem sgs_nil : SGs gNil [] bNil := by
  intro O P σ H env env' S vs ds Q I r e q
  unfold bNil at e
  split at e
  · cases e
    cases r
    exact ⟨rfl, q σ I .refl⟩
  · cases e
theorem sgs_cons {g : TG} {gs : TGs} {ix ix' : List Nat} {b : MG} {c : MGs} (h : SG g ix b) (h2 : SGs gs ix' c) : SGs (gCons g gs) (ix ++ ix') (bCons b c) := by
  intro O P σ H env env' S vs ds Q I r e q
  unfold bCons at e
  split at e
  · rename_i d r'
    cases r with
    | cons rv rl =>
    cases eb : b d env with
    | none => rw [eb] at e; cases e
    | some env1 =>
      rw [eb] at e
      refine ⟨_, _, rfl, h O P σ H env env1 S _ d _ I rv eb fun σ1 I1 s1 => ?_⟩
      exact h2 O P σ1 H env1 env' S _ r' Q I1 rl e fun σ2 I2 s2 => q σ2 I2 (s1.trans s2)
  · cases e
theorem sg_tup {K : PySem.W.Frag} {gs : TGs} {ix : List Nat} {c : MGs} {n : Nat} (h : SGs gs ix c) : SG (gTup K n gs) ix (bTup n c) := by
  intro O P σ H env env' S v d Q I r e q
  unfold bTup at e
  split at e
  · split at e
    · rename_i hn
      cases r with
      | @tup a vs ds' ha na hz l =>
      exact ⟨a, vs, rfl, ha.sq, l.len.trans hn, h O P σ H env env' S vs _ Q I l e q⟩
    · cases e
  · cases e
structure PDG (X : Cx) (tg : Expr) (g : TG) (ix : List Nat) (b : MG) : Prop where
  pg : PG X tg g
  sem : SG g ix b
structure PDGs (X : Cx) (ts : List Expr) (g : TGs) (ix : List Nat) (b : MGs) : Prop where
  pg : PGs X ts g
  sem : SGs g ix b
section
variable {X : Cx} {pos : Pos} {e : Expr} {es : List Expr} {g : TG} {gs : TGs} {ix ix' : List Nat} {b : MG} {c : MGs}
theorem pdg_nm {i : Nat} {x : Str} (hN : X.N.Nodup) (hi : X.N[i]? = some x) (hx : Loc X.env.scope x) (hf : X.fn x = true ∨ X.env.scope.names.lookup x = some .local := by first | exact .inl rfl | exact .inr rfl | assumption) : PDG X (.Name x pos) (gName i) [i] (bNm i) := ⟨pg_name hN hi hx hf, sg_nm i⟩
theorem pdgs_nil : PDGs X [] gNil [] bNil := ⟨pgs_nil, sgs_nil⟩
theorem pdgs_cons (h : PDG X e g ix b) (h2 : PDGs X es gs ix' c) (hs : (assignEach (e :: es) X.env).map (·.2) = assign e X.env :: (assignEach es X.env).map (·.2) := by rfl) : PDGs X (e :: es) (gCons g gs) (ix ++ ix') (bCons b c) := ⟨pgs_cons h.pg h2.pg hs, sgs_cons h.sem h2.sem⟩
theorem pdg_tup {k n : Nat} (hc : X.calm = true) (h : PDGs X es gs ix c) (hn : (assignEach es X.env).length = n := by rfl) (hst : (assignEach es X.env).findIdx? (·.1) = none := by rfl) : PDG X (.Tuple es k pos) (gTup X.K n gs) ix (bTup n c) := ⟨pg_tup hc h.pg hn hst, sg_tup h.sem⟩
end
/-! ### comprehensions -/
def wipeE (env : DEnv) : List Nat → DEnv
  | [] => env
  | v :: vs => (wipeE env vs).set v .no
theorem wipeE_get {env : DEnv} {i : Nat} {s : Slo} (hs : s ≠ .no) : ∀ {vs : List Nat}, (wipeE env vs)[i]? = some s → env[i]? = some s ∧ i ∉ vs
  | [], h => ⟨h, by simp⟩
  | v :: vs, h => by
    unfold wipeE at h
    by_cases hi : v = i
    · subst hi
      by_cases hv : v < (wipeE env vs).length
      · rw [List.getElem?_set_self hv] at h; cases h; exact (hs rfl).elim
      · rw [List.getElem?_eq_none (by simpa using hv)] at h; cases h
    · rw [List.getElem?_set_ne hi] at h
      obtain ⟨h1, h2⟩ := wipeE_get hs h
      exact ⟨h1, by simp only [List.mem_cons, not_or]; exact ⟨fun e => hi e.symm, h2⟩⟩
theorem wipeE_len (env : DEnv) : ∀ vs : List Nat, (wipeE env vs).length = env.length
  | [] => rfl
  | v :: vs => by unfold wipeE; rw [List.length_set, wipeE_len env vs]
theorem wipe_out {σ : L2.St} {i : Nat} : ∀ {vs : List Nat}, i ∉ vs → (wipe σ vs)[i]? = σ[i]?
  | [], _ => rfl
  | v :: vs, h => by
    unfold wipe
    rw [List.getElem?_set_ne fun e => h (by rw [e]; exact List.mem_cons_self)]
    exact wipe_out fun q => h (List.mem_cons_of_mem _ q)
theorem wipe_in {σ : L2.St} {i : Nat} (hi : i < σ.length) : ∀ {vs : List Nat}, i ∈ vs → (wipe σ vs)[i]? = some none
  | [], h => by cases h
  | v :: vs, h => by
    unfold wipe
    by_cases e : v = i
    · subst e
      rw [List.getElem?_set_self (by rw [wipe_length]; exact hi)]
    · rw [List.getElem?_set_ne e]
      exact wipe_in hi ((List.mem_cons.mp h).resolve_left fun q => e q.symm)
theorem wipe_eq {σ σ' : L2.St} {ix vs : List Nat} (hl : σ'.length = σ.length) (h : ∀ i, i ∉ ix → σ'[i]? = σ[i]?) (hs : ∀ i ∈ ix, i ∈ vs) : wipe σ' vs = wipe σ vs := by
  apply List.ext_getElem?
  intro i
  by_cases hi : i ∈ vs
  · by_cases hlt : i < σ.length
    · rw [wipe_in (by rw [hl]; exact hlt) hi, wipe_in hlt hi]
    · rw [List.getElem?_eq_none (by rw [wipe_length, hl]; omega), List.getElem?_eq_none (by rw [wipe_length]; omega)]
  · rw [wipe_out hi, wipe_out hi]
    exact h i fun q => hi (hs i q)
theorem EI.wiped {O : Addr → Prop} {P : Fix} {σ : L2.St} {H : Hp} {env : DEnv} {S : Sm} (I : EI O P σ H env S) (vs : List Nat) : EI O P (wipe σ vs) H (wipeE env vs) S := by
  refine ⟨I.ops, I.nq, I.dom, I.sm, by rw [wipe_length, wipeE_len]; exact I.len, fun i d h => ?_, fun i d h => ?_⟩
  · obtain ⟨h1, h2⟩ := wipeE_get (fun e => by cases e) h
    rw [wipe_out h2]
    exact I.fz i d h1
  · obtain ⟨h1, h2⟩ := wipeE_get (fun e => by cases e) h
    rw [wipe_out h2]
    exact I.ow i d h1
def lcGo (b : MG) (c : MT) (e : M) (env : DEnv) : List Dat → Sm → Option (List Dat × Sm)
  | [], S => some ([], S)
  | d :: ds, S => (b d env).bind fun env1 => (c env1 S).bind fun t => if t.1 = true then (e env1 t.2).bind fun y => (lcGo b c e env ds y.2).map fun w => (y.1 :: w.1, w.2) else lcGo b c e env ds t.2
def mLc (mi : ML) (b : MG) (c : MT) (e : M) (vs : List Nat) : M := fun env S => (mi env S).bind fun r => (lcGo b c e (wipeE env vs) r.1 r.2).map fun w => (.lst w.1, w.2)
theorem sn_lc {wi : TI} {g : TG} {tt : TT} {te : TE} {mi : ML} {ix vs : List Nat} {b : MG} {c : MT} {m : M} (hi : SI wi mi) (hg : SG g ix b) (hc : ST tt c) (he : SE te m) (hix : ∀ i ∈ ix, i ∈ vs) : SN (tLc wi g tt te vs) (mLc mi b c m vs) := by
  intro O P σ H env S r Q I e q
  unfold mLc at e
  cases ei : mi env S with
  | none => rw [ei] at e; cases e
  | some it =>
    rw [ei] at e
    simp only [Option.bind_some] at e
    cases eg : lcGo b c m (wipeE env vs) it.1 it.2 with
    | none => rw [eg] at e; cases e
    | some w =>
      rw [eg] at e
      cases e
      refine hi O P σ H env S it _ I ei fun J H1 f1 s1 ok => ?_
      intro D nD
      have npD : D ≠ P.ps := ne_ps s1 nD
      have I1 := I.fr f1 s1
      have nqD : P.qs ≠ D := ne_of_none s1.2 nD
      -- the list that is made is ours alone
      have trD : ∀ H', Fr P H1 H' → Tr O H1 (fun a => O a ∨ a = D) H' := fun H' f => .of fun a u na h => ⟨fun z => z.elim na fun e => absurd (e ▸ h) (by rw [nD]; simp), f a u (fun e => na (e ▸ I.ops)) h⟩
      have later : ∀ H' S', Fr P H1 H' → StrmAt P H' S' → (∃ o, H' D = some o) → EI (fun a => O a ∨ a = D) P σ H' env S' := fun H' S' f s hD =>
        ⟨.inl I.ops, fun z => z.elim I.nq nqD, fun a z => z.elim (fun z => (I1.fr f s).dom a z) fun z => by obtain ⟨o, h⟩ := hD; rw [z, h]; simp, s, I.len,
          fun i d h => let ⟨v, h1, h2⟩ := I1.fz i d h; ⟨v, h1, h2.tr (trD H' f)⟩, fun i d h => let ⟨p, h1, h2, h3, h4⟩ := I1.ow i d h; ⟨p, h1, .inl h2, h3, h4.mono (trD H' f) fun o h => f p o h3 h⟩⟩
      -- the turns: acc so far, what the rest gives
      refine ⟨fun i k H' => ∃ (acc : List V) (accD rest : List Dat) (S' : Sm), k = it.1.length - i ∧ i ≤ it.1.length ∧ acc.length ≤ i ∧ Fr P H1 H' ∧ StrmAt P H' S' ∧ H' D = some (.lst acc) ∧ RepL (fun a => O a ∨ a = D) P.ps H' acc accD ∧
        lcGo b c m (wipeE env vs) (it.1.drop i) S' = some (rest, w.2) ∧ accD ++ rest = w.1, ⟨_, [], [], w.1, it.2, rfl, Nat.zero_le _, Nat.le_refl _, .new nD, s1.new nD, upd_same, .nil, by rw [List.drop_zero]; exact eg, rfl⟩, ?_⟩
      rintro i k H' ⟨acc, accD, rest, S', rfl, hil, hal, f', s', hD, rl, go, hw⟩
      have I' := later H' S' f' s' ⟨_, hD⟩
      have lt' : Lt1 O P H1 (fun a => O a ∨ a = D) H' := ⟨trD H' f', f', I'.dom⟩
      by_cases hlt : i < it.1.length
      · have hd : it.1[i]? = some it.1[i] := List.getElem?_eq_getElem hlt
        have hdrop : it.1.drop i = it.1[i] :: it.1.drop (i + 1) := List.drop_eq_getElem_cons hlt
        rw [hdrop] at go
        unfold lcGo at go
        refine .inr ⟨ok.go _ H' i lt' hlt, fun H'' => ∃ k', k' < it.1.length - i ∧ ∃ (acc : List V) (accD rest : List Dat) (S' : Sm), k' = it.1.length - (i + 1) ∧ i + 1 ≤ it.1.length ∧ acc.length ≤ i + 1 ∧ Fr P H1 H'' ∧ StrmAt P H'' S' ∧ H'' D = some (.lst acc) ∧ RepL (fun a => O a ∨ a = D) P.ps H'' acc accD ∧
          lcGo b c m (wipeE env vs) (it.1.drop (i + 1)) S' = some (rest, w.2) ∧ accD ++ rest = w.1, fun H'' h => h, fun x H2 hy => ?_⟩
        obtain ⟨sm2, rx⟩ := ok.yld _ H' i x H2 _ lt' hd hy
        have f2 : Fr P H' H2 := fun a o _ h => sm2 a o h
        have s2 : StrmAt P H2 S' := ⟨sm2 _ _ s'.1, sm2 _ _ s'.2⟩
        have I2 := (I'.fr f2 s2).wiped vs
        cases eb : b it.1[i] (wipeE env vs) with
        | none => rw [eb] at go; cases go
        | some env1 =>
          rw [eb] at go
          simp only [Option.bind_some] at go
          refine hg _ P _ H2 _ env1 S' x _ _ I2 rx eb fun σ2 I3 st => ⟨?_, ?_⟩
          · rw [wipe_eq (st.len) st.out hix]
            exact wipe_eq (ix := vs) (by rw [wipe_length]) (fun i h => wipe_out h) fun i h => h
          · cases ec : c env1 S' with
            | none => rw [ec] at go; cases go
            | some t =>
              rw [ec] at go
              simp only [Option.bind_some] at go
              refine hc _ P σ2 H2 env1 S' t _ I3 ec fun H3 f3 s3 => ?_
              have I4 := I3.fr f3 s3
              split
              · rename_i ht
                rw [if_pos ht] at go
                cases em : m env1 t.2 with
                | none => rw [em] at go; cases go
                | some y =>
                  rw [em] at go
                  simp only [Option.bind_some] at go
                  cases er : lcGo b c m (wipeE env vs) (it.1.drop (i + 1)) y.2 with
                  | none => rw [er] at go; cases go
                  | some w2 =>
                    rw [er] at go
                    simp only [Option.map_some, Option.some.injEq, Prod.mk.injEq] at go
                    obtain ⟨g1, g2⟩ := go
                    refine he _ P σ2 H3 env1 t.2 y _ I4 em fun v H4 f4 s4 rv => ?_
                    have fD : Fr P H' H4 := (f2.trans f3).trans f4
                    have hD4 : H4 D = some (.lst acc) := fD D _ npD hD
                    have trU : Tr (fun a => O a ∨ a = D) H4 (fun a => O a ∨ a = D) (upd H4 D (.lst (acc ++ [v]))) := .of fun a u na h => ⟨na, (upd_ne fun e => na (.inr e)).trans h⟩
                    have hz : acc.length < sizeLine := Nat.lt_of_le_of_lt hal (Nat.lt_of_lt_of_le hlt ok.sz)
                    have rl4 := (rl.tr (fD.tr (O := fun a => O a ∨ a = D) (.inl I.ops))).app (.cons rv .nil)
                    refine ⟨acc, hD4, hz, _, Nat.sub_lt_sub_left hlt (Nat.lt_succ_self i), acc ++ [v], accD ++ [y.1], w2.1, y.2, rfl, hlt, by rw [List.length_append]; exact Nat.add_le_add_right hal 1, ?_, ?_, upd_same, rl4.tr trU, ?_, ?_⟩
                    · exact fun a o na h => (upd_ne (ne_of_none h nD)).trans ((f'.trans fD) a o na h)
                    · exact ⟨(upd_ne fun e => npD e.symm).trans s4.1, (upd_ne nqD).trans s4.2⟩
                    · rw [er, ← g2]
                    · rw [List.append_assoc]
                      show accD ++ (y.1 :: w2.1) = w.1
                      rw [g1]
                      exact hw
              · rename_i ht
                rw [if_neg ht] at go
                exact ⟨_, Nat.sub_lt_sub_left hlt (Nat.lt_succ_self i), acc, accD, rest, t.2, rfl, hlt, Nat.le_succ_of_le hal, (f'.trans f2).trans f3, s3, f3 D _ npD (f2 D _ npD hD), rl.tr ((f2.trans f3).tr (O := fun a => O a ∨ a = D) (.inl I.ops)), go, hw⟩
      · have hi' : i = it.1.length := by omega
        rw [List.drop_of_length_le (by omega)] at go
        unfold lcGo at go
        simp only [Option.some.injEq, Prod.mk.injEq] at go
        obtain ⟨g1, g2⟩ := go
        subst g1
        rw [List.append_nil] at hw
        subst hw
        refine .inl ⟨hi' ▸ ok.stop _ H' lt', q D H' (back_none f1 s1 nD) npD (f1.trans f') (g2 ▸ s') ⟨acc, hD, Nat.le_trans hal (Nat.le_trans hil ok.sz), rl⟩⟩
end PD

namespace PD
open PySem PySem.Spec PyProof.Rows L2
/-! ### comprehensions as terms -/
def mYes : MT := fun _ S => some (true, S)
theorem st_yes : ST tYes mYes := fun O P σ H env S r Q I e q => by
  cases e
  exact q H .refl I.sm
structure PDTs (X : Cx) (ifs : List Expr) (t : TT) (m : MT) : Prop where
  pt : PTs X ifs t
  sem : ST t m
theorem pts0 {X : Cx} : PDTs X [] tYes mYes := ⟨pts_nil, st_yes⟩
theorem pts1 {X : Cx} {c : Expr} {t : TT} {m : MT} (h : PDT X c t m) : PDTs X [c] t m := ⟨pts_one h.pt, h.sem⟩
section
variable {X : Cx} {elt tg iter : Expr} {ifs : List Expr} {scope : Scope} {own : List (Str × Nat)} {pos : Pos} {wi : TI} {g : TG} {tt : TT} {te : TE} {mi : ML} {ix : List Nat} {b : MG} {c : MT} {m : M}
theorem pn_lc (hc : X.calm = true) (hN : X.N.Nodup) (ok : BlkOk X.N X.env.scope scope own) (hi : PDI X tg iter wi mi)
    (hg : ∀ (s : Shared) (H : Hp) (C : Addr) (cl : List (Str × Addr)) (fp : List Addr), PDG (X.blk s H scope (compEnvC scope cl C X.env) fp) tg g ix b) (ht : ∀ (s : Shared) (H : Hp) (C : Addr) (cl : List (Str × Addr)) (fp : List Addr), PDTs (X.blk s H scope (compEnvC scope cl C X.env) fp) ifs tt c)
    (he : ∀ (s : Shared) (H : Hp) (C : Addr) (cl : List (Str × Addr)) (fp : List Addr), PDE (X.blk s H scope (compEnvC scope cl C X.env) fp) elt te m) (hix : (ix.all fun i => decide (i ∈ own.map (·.2))) = true := by decide) (hs : ∀ x, foldedSetIterable iter X.env x = pure x := by intro _; rfl) :
    PDN X (.ListComp elt [⟨tg, iter, ifs, 0⟩] scope pos) (tLc wi g tt te (own.map (·.2))) (mLc mi b c m (own.map (·.2))) :=
  ⟨pe_lc hc hN hi.pi ok (fun s H C cl fp => (hg s H C cl fp).pg) (fun s H C cl fp => (ht s H C cl fp).pt) (fun s H C cl fp => (he s H C cl fp).pe) hs,
   sn_lc hi.sem (hg X.s_0 X.H_0 0 [] []).sem (ht X.s_0 X.H_0 0 [] []).sem (he X.s_0 X.H_0 0 [] []).sem fun i hi => of_decide_eq_true (List.all_eq_true.mp hix i hi)⟩
end
/-! ### statements -/
structure FX where
  P : Fix
  O0 : Addr → Prop
  H0 : Hp
def ownS (O0 : Addr → Prop) (σ : L2.St) (env : DEnv) : Addr → Prop := fun a => O0 a ∨ ∃ (i : Nat) (d : Dat), env[i]? = some (.ow d) ∧ σ[i]? = some (some (.ref a))
structure SInv (F : FX) (σ : L2.St) (H : Hp) (env : DEnv) (S : Sm) : Prop where
  ei : EI (ownS F.O0 σ env) F.P σ H env S
  frm : Fr F.P F.H0 H
  new : ∀ (i : Nat) d p, env[i]? = some (.ow d) → σ[i]? = some (some (.ref p)) → F.H0 p = none
  dis : ∀ (i j : Nat) d e p, env[i]? = some (.ow d) → env[j]? = some (.ow e) → σ[i]? = some (some (.ref p)) → σ[j]? = some (some (.ref p)) → i = j
  o0 : ∀ a, F.O0 a → F.H0 a ≠ none
  ps0 : F.O0 F.P.ps
inductive Fl where
  | nx (env : DEnv) | bk (env : DEnv) | ct (env : DEnv) | rt (d : Dat)
abbrev MS' := DEnv → Sm → Option (Fl × Sm)
def Post (F : FX) (σ : L2.St) (H : Hp) (env : DEnv) (D : Ends) : Fl × Sm → Prop
  | (.nx env', S') => ∀ σ' H', SInv F σ' H' env' S' → Tr (ownS F.O0 σ env) H (ownS F.O0 σ' env') H' → D.nx σ' H'
  | (.bk env', S') => ∀ σ' H', SInv F σ' H' env' S' → Tr (ownS F.O0 σ env) H (ownS F.O0 σ' env') H' → D.bk σ' H'
  | (.ct env', S') => ∀ σ' H', SInv F σ' H' env' S' → Tr (ownS F.O0 σ env) H (ownS F.O0 σ' env') H' → D.ct σ' H'
  | (.rt d, S') => ∀ v H', Fr F.P F.H0 H' → StrmAt F.P H' S' → Rep F.O0 F.P.ps H' v d → D.rt v H'
def SS (t : TS) (m : MS') : Prop := ∀ (F : FX) (σ : L2.St) (H : Hp) (env : DEnv) (S : Sm) (out : Fl × Sm) (D : Ends), SInv F σ H env S → m env S = some out → Post F σ H env D out → t D σ H
theorem SInv.fr {F : FX} {σ : L2.St} {H H' : Hp} {env : DEnv} {S S' : Sm} (I : SInv F σ H env S) (f : Fr F.P H H') (s : StrmAt F.P H' S') : SInv F σ H' env S' :=
  ⟨I.ei.fr f s, I.frm.trans f, I.new, I.dis, I.o0, I.ps0⟩
theorem Post.back {F : FX} {σ σ1 : L2.St} {H H1 : Hp} {env env1 : DEnv} {D : Ends} {out : Fl × Sm} (p : Post F σ H env D out) (t : Tr (ownS F.O0 σ env) H (ownS F.O0 σ1 env1) H1) : Post F σ1 H1 env1 D out := by
  obtain ⟨f, S'⟩ := out
  cases f with
  | nx e => exact fun σ' H' i t' => p σ' H' i (t.trans t')
  | bk e => exact fun σ' H' i t' => p σ' H' i (t.trans t')
  | ct e => exact fun σ' H' i t' => p σ' H' i (t.trans t')
  | rt d => exact p
structure PDS (X : Cx) (st : Stmt) (t : TS) (m : MS') : Prop where
  ps : PS X st t
  sem : SS t m
structure PDSs (X : Cx) (st : List Stmt) (t : TS) (m : MS') : Prop where
  ps : PSs X st t
  sem : SS t m
def mNext : MS' := fun env S => some (.nx env, S)
theorem ss_next : SS tNext mNext := fun F σ H env S out D I e p => by
  cases e
  exact p σ H I .refl
def mSeq (a b : MS') : MS' := fun env S => (a env S).bind fun r => match r.1 with
  | .nx env1 => b env1 r.2
  | _ => some r
theorem ss_seq {t u : TS} {a b : MS'} (h1 : SS t a) (h2 : SS u b) : SS (tSeq t u) (mSeq a b) := by
  intro F σ H env S out D I e p
  unfold mSeq at e
  cases ea : a env S with
  | none => rw [ea] at e; cases e
  | some r =>
    rw [ea] at e
    simp only [Option.bind_some] at e
    refine h1 F σ H env S r _ I ea ?_
    obtain ⟨f, S'⟩ := r
    cases f with
    | nx env1 => exact fun σ1 H1 I1 t1 => h2 F σ1 H1 env1 S' out D I1 e (p.back t1)
    | bk env1 => cases e; exact p
    | ct env1 => cases e; exact p
    | rt d => cases e; exact p
section
variable {X : Cx} {st : Stmt} {rest : List Stmt} {t u : TS} {a b : MS'} {pos : Pos}
theorem pds_nil : PDSs X [] tNext mNext := ⟨pss_nil, ss_next⟩
theorem pds_cons (h : PDS X st t a) (h2 : PDSs X rest u b) : PDSs X (st :: rest) (tSeq t u) (mSeq a b) := ⟨pss_cons h.ps h2.ps, ss_seq h.sem h2.sem⟩
theorem pds_one (h : PDS X st t a) : PDSs X [st] t a := ⟨pss_one h.ps, h.sem⟩
theorem pd_pass : PDS X (.Pass pos) tNext mNext := ⟨ps_pass, ss_next⟩
theorem pd_doc {x j pos'} : PDS X (.Expr (.Constant (.str x) j pos) pos') tNext mNext := ⟨ps_doc, ss_next⟩
def mBk : MS' := fun env S => some (.bk env, S)
def mCt : MS' := fun env S => some (.ct env, S)
theorem pd_break : PDS X (.Break pos) tBreak mBk := ⟨ps_break, fun F σ H env S out D I e p => by cases e; exact p σ H I .refl⟩
theorem pd_cont : PDS X (.Continue pos) tCont mCt := ⟨ps_continue, fun F σ H env S out D I e p => by cases e; exact p σ H I .refl⟩
/-- a place that is not come to -/
def mNo : MS' := fun _ _ => none
theorem pd_never : PDS X st tNever mNo := ⟨ps_never, fun F σ H env S out D I e p => by cases e⟩
def mIf (c : MT) (a b : MS') : MS' := fun env S => (c env S).bind fun r => if r.1 = true then a env r.2 else b env r.2
theorem ss_if {tc : TT} {c : MT} (h : ST tc c) (h1 : SS t a) (h2 : SS u b) : SS (tIfS tc t u) (mIf c a b) := by
  intro F σ H env S out D I e p
  unfold mIf at e
  cases ec : c env S with
  | none => rw [ec] at e; cases e
  | some r =>
    rw [ec] at e
    simp only [Option.bind_some] at e
    refine h _ F.P σ H env S r _ I.ei ec fun H1 f s => ?_
    have I1 := I.fr f s
    have p1 := p.back (f.tr I.ei.ops)
    split
    · rename_i hb
      rw [if_pos hb] at e
      exact h1 F σ H1 env r.2 out D I1 e p1
    · rename_i hb
      rw [if_neg hb] at e
      exact h2 F σ H1 env r.2 out D I1 e p1
theorem pd_if {c : Expr} {p q : List Stmt} {tc : TT} {mc : MT} (h : PDT X c tc mc) (h1 : PDSs X p t a) (h2 : PDSs X q u b) : PDS X (.If c p q pos) (tIfS tc t u) (mIf mc a b) := ⟨ps_if h.pt h1.ps h2.ps, ss_if h.sem h1.sem h2.sem⟩
end
/-- owned things behind a frozen store -/
theorem own_sub {O0 : Addr → Prop} {σ σ' : L2.St} {env env' : DEnv} (h : ∀ (i : Nat) d, env'[i]? = some (.ow d) → env[i]? = some (.ow d) ∧ σ'[i]? = σ[i]?) : ∀ a, ownS O0 σ' env' a → ownS O0 σ env a := fun a z => z.elim .inl fun ⟨i, d, h1, h2⟩ => .inr ⟨i, d, (h i d h1).1, (h i d h1).2 ▸ h2⟩
theorem SInv.less {F : FX} {σ σ' : L2.St} {H : Hp} {env env' : DEnv} {S : Sm} (I : SInv F σ H env S) (hl : σ'.length = env'.length) (h : ∀ (i : Nat) d, env'[i]? = some (.ow d) → env[i]? = some (.ow d) ∧ σ'[i]? = σ[i]?)
    (hf : ∀ (i : Nat) d, env'[i]? = some (.fz d) → ∃ v, σ'[i]? = some (some v) ∧ Rep (ownS F.O0 σ' env') F.P.ps H v d) : SInv F σ' H env' S ∧ Tr (ownS F.O0 σ env) H (ownS F.O0 σ' env') H := by
  have sub := own_sub (O0 := F.O0) h
  have t : Tr (ownS F.O0 σ env) H (ownS F.O0 σ' env') H := .of fun a u na e => ⟨fun z => na (sub a z), e⟩
  refine ⟨⟨⟨.inl I.ps0, fun z => I.ei.nq (sub _ z), fun a z => I.ei.dom a (sub a z), I.ei.sm, hl, hf, fun i d e => ?_⟩, I.frm, fun i d p e1 e2 => I.new i d p (h i d e1).1 ((h i d e1).2 ▸ e2), fun i j d e p e1 e2 e3 e4 => I.dis i j d e p (h i d e1).1 (h j e e2).1 ((h i d e1).2 ▸ e3) ((h j e e2).2 ▸ e4), I.o0, I.ps0⟩, t⟩
  obtain ⟨p, h1, h2, h3, h4⟩ := I.ei.ow i d (h i d e).1
  have h1' : σ'[i]? = some (some (.ref p)) := (h i d e).2.trans h1
  exact ⟨p, h1', .inr ⟨i, d, e, h1'⟩, h3, h4.mono t fun _ z => z⟩
theorem set_ow {env : DEnv} {i j : Nat} {s : Slo} {e : Dat} (hs : ∀ e, s ≠ .ow e) (h : (env.set i s)[j]? = some (.ow e)) : i ≠ j ∧ env[j]? = some (.ow e) := by
  by_cases hj : i = j
  · subst hj
    by_cases hi : i < env.length
    · rw [List.getElem?_set_self hi] at h; cases h; exact (hs e rfl).elim
    · rw [List.getElem?_eq_none (by rw [List.length_set]; omega)] at h; cases h
  · rw [List.getElem?_set_ne hj] at h; exact ⟨hj, h⟩
theorem SInv.setF {F : FX} {σ : L2.St} {H : Hp} {env : DEnv} {S : Sm} {i : Nat} {v : V} {d : Dat} (I : SInv F σ H env S) (hi : i < env.length) (r : Rep (ownS F.O0 σ env) F.P.ps H v d) :
    SInv F (σ.set i (some v)) H (env.set i (.fz d)) S ∧ Tr (ownS F.O0 σ env) H (ownS F.O0 (σ.set i (some v)) (env.set i (.fz d))) H := by
  have hs : i < σ.length := by rw [I.ei.len]; exact hi
  have hh : ∀ (j : Nat) e, (env.set i (.fz d))[j]? = some (.ow e) → env[j]? = some (.ow e) ∧ (σ.set i (some v))[j]? = σ[j]? := fun j e h =>
    let ⟨h1, h2⟩ := set_ow (fun _ z => by cases z) h
    ⟨h2, List.getElem?_set_ne h1⟩
  have t : Tr (ownS F.O0 σ env) H (ownS F.O0 (σ.set i (some v)) (env.set i (.fz d))) H := .of fun a u na e => ⟨fun z => na (own_sub hh a z), e⟩
  refine I.less (by rw [List.length_set, List.length_set]; exact I.ei.len) hh fun j e h => ?_
  by_cases hj : i = j
  · subst hj
    rw [List.getElem?_set_self hi] at h
    cases h
    exact ⟨v, List.getElem?_set_self hs, r.tr t⟩
  · rw [List.getElem?_set_ne hj] at h ⊢
    obtain ⟨u, h1, h2⟩ := I.ei.fz j e h
    exact ⟨u, h1, h2.tr t⟩
/-- a new owned thing -/
theorem SInv.setO {F : FX} {σ : L2.St} {H H' : Hp} {env : DEnv} {S S' : Sm} {i : Nat} {p : Addr} {d : Dat} (I : SInv F σ H env S) (hi : i < env.length) (n : H p = none) (np : p ≠ F.P.ps) (f : Fr F.P H H') (s : StrmAt F.P H' S')
    (o : Own (fun a => ownS F.O0 σ env a ∨ a = p) F.P.ps H' p d) : SInv F (σ.set i (some (.ref p))) H' (env.set i (.ow d)) S' ∧ Tr (ownS F.O0 σ env) H (ownS F.O0 (σ.set i (some (.ref p))) (env.set i (.ow d))) H' := by
  have hs : i < σ.length := by rw [I.ei.len]; exact hi
  have get : ∀ (j : Nat) e, (env.set i (.ow d))[j]? = some (.ow e) → (j = i ∧ e = d) ∨ (j ≠ i ∧ env[j]? = some (.ow e)) := fun j e h => by
    by_cases hj : i = j
    · subst hj
      rw [List.getElem?_set_self hi] at h
      cases h
      exact .inl ⟨rfl, rfl⟩
    · rw [List.getElem?_set_ne hj] at h
      exact .inr ⟨fun z => hj z.symm, h⟩
  have sub : ∀ a, ownS F.O0 (σ.set i (some (.ref p))) (env.set i (.ow d)) a → ownS F.O0 σ env a ∨ a = p := fun a z => z.elim (fun z => .inl (.inl z)) fun ⟨j, e, h1, h2⟩ => by
    rcases get j e h1 with ⟨rfl, rfl⟩ | ⟨hj, h3⟩
    · rw [List.getElem?_set_self hs] at h2
      cases h2
      exact .inr rfl
    · rw [List.getElem?_set_ne (fun z => hj z.symm)] at h2
      exact .inl (.inr ⟨j, e, h3, h2⟩)
  have t : Tr (ownS F.O0 σ env) H (ownS F.O0 (σ.set i (some (.ref p))) (env.set i (.ow d))) H' := .of fun a u na e =>
    ⟨fun z => (sub a z).elim na fun q => absurd (q ▸ e) (by rw [n]; simp), f a u (fun q => na (q ▸ I.ei.ops)) e⟩
  have t2 : Tr (fun a => ownS F.O0 σ env a ∨ a = p) H' (ownS F.O0 (σ.set i (some (.ref p))) (env.set i (.ow d))) H' := .of fun a u na e => ⟨fun z => na (sub a z), e⟩
  have I' := I.ei.fr f s
  obtain ⟨op, hop⟩ := o.some
  have own0 : ∀ (j : Nat) e q, env[j]? = some (.ow e) → σ[j]? = some (some (.ref q)) → q ≠ p := fun j e q h1 h2 z => I.ei.dom q (.inr ⟨j, e, h1, h2⟩) (z ▸ n)
  refine ⟨⟨⟨.inl I.ps0, fun z => (sub _ z).elim I.ei.nq fun q => (ne_of_none I.ei.sm.2 n) q, fun a z => (sub a z).elim (I'.dom a) fun q => (by rw [q, hop]; simp), s, by rw [List.length_set, List.length_set]; exact I.ei.len, fun j e h => ?_, fun j e h => ?_⟩, I.frm.trans f, fun j e q h1 h2 => ?_, fun j k e e' q h1 h2 h3 h4 => ?_, I.o0, I.ps0⟩, t⟩
  · by_cases hj : i = j
    · subst hj
      rw [List.getElem?_set_self hi] at h
      cases h
    · rw [List.getElem?_set_ne hj] at h ⊢
      obtain ⟨u, h1, h2⟩ := I.ei.fz j e h
      exact ⟨u, h1, h2.tr t⟩
  · rcases get j e h with ⟨rfl, rfl⟩ | ⟨hj, h3⟩
    · exact ⟨p, List.getElem?_set_self hs, .inr ⟨j, e, h, List.getElem?_set_self hs⟩, np, o.mono t2 fun _ z => z⟩
    · obtain ⟨q, k1, k2, k3, k4⟩ := I.ei.ow j e h3
      have k5 : (σ.set i (some (.ref p)))[j]? = some (some (.ref q)) := (List.getElem?_set_ne fun z => hj z.symm).trans k1
      exact ⟨q, k5, .inr ⟨j, e, h, k5⟩, k3, k4.mono t fun o z => f q o k3 z⟩
  · rcases get j e h1 with ⟨rfl, rfl⟩ | ⟨hj, h3⟩
    · rw [List.getElem?_set_self hs] at h2
      cases h2
      cases q : F.H0 p with
      | none => rfl
      | some o => exact absurd (I.frm p o np q) (by rw [n]; simp)
    · rw [List.getElem?_set_ne (fun z => hj z.symm)] at h2
      exact I.new j e q h3 h2
  · rcases get j e h1 with ⟨rfl, rfl⟩ | ⟨hj, h5⟩
    · rcases get k e' h2 with ⟨rfl, rfl⟩ | ⟨hk, h6⟩
      · rfl
      · rw [List.getElem?_set_self hs] at h3
        cases h3
        rw [List.getElem?_set_ne (fun z => hk z.symm)] at h4
        exact (own0 k e' p h6 h4 rfl).elim
    · rw [List.getElem?_set_ne (fun z => hj z.symm)] at h3
      rcases get k e' h2 with ⟨rfl, rfl⟩ | ⟨hk, h6⟩
      · rw [List.getElem?_set_self hs] at h4
        cases h4
        exact (own0 j e p h5 h3 rfl).elim
      · rw [List.getElem?_set_ne (fun z => hk z.symm)] at h4
        exact I.dis j k e e' q h5 h6 h3 h4
/-- an owned thing changed in its place -/
theorem SInv.upd {F : FX} {σ : L2.St} {H : Hp} {env : DEnv} {S : Sm} {i : Nat} {p : Addr} {d d' : Dat} {o : HO} (I : SInv F σ H env S) (he : env[i]? = some (.ow d)) (hσ : σ[i]? = some (some (.ref p)))
    (ho : Own (ownS F.O0 σ env) F.P.ps (upd H p o) p d') : SInv F σ (L2.upd H p o) (env.set i (.ow d')) S ∧ Tr (ownS F.O0 σ env) H (ownS F.O0 σ (env.set i (.ow d'))) (L2.upd H p o) := by
  have hi : i < env.length := (List.getElem?_eq_some_iff.mp he).1
  have get : ∀ (j : Nat) e, (env.set i (.ow d'))[j]? = some (.ow e) → (j = i ∧ e = d') ∨ (j ≠ i ∧ env[j]? = some (.ow e)) := fun j e h => by
    by_cases hj : i = j
    · subst hj
      rw [List.getElem?_set_self hi] at h
      cases h
      exact .inl ⟨rfl, rfl⟩
    · rw [List.getElem?_set_ne hj] at h
      exact .inr ⟨fun z => hj z.symm, h⟩
  have getW : ∀ (j : Nat) e, (env.set i (.ow d'))[j]? = some (.ow e) → ∃ e0, env[j]? = some (.ow e0) := fun j e h => by
    rcases get j e h with ⟨rfl, _⟩ | ⟨_, h⟩
    · exact ⟨d, he⟩
    · exact ⟨e, h⟩
  have same : ∀ a, ownS F.O0 σ (env.set i (.ow d')) a → ownS F.O0 σ env a := fun a z => z.elim .inl fun ⟨j, e, h1, h2⟩ => let ⟨e0, h3⟩ := getW j e h1; .inr ⟨j, e0, h3, h2⟩
  have same2 : ∀ a, ownS F.O0 σ env a → ownS F.O0 σ (env.set i (.ow d')) a := fun a z => z.elim .inl fun ⟨j, e, h1, h2⟩ => by
    by_cases hj : i = j
    · subst hj
      exact .inr ⟨i, d', List.getElem?_set_self hi, h2⟩
    · exact .inr ⟨j, e, (List.getElem?_set_ne hj).trans h1, h2⟩
  have op : ownS F.O0 σ env p := .inr ⟨i, d, he, hσ⟩
  have np : p ≠ F.P.ps := by
    obtain ⟨q, h1, h2, h3, h4⟩ := I.ei.ow i d he
    rw [hσ] at h1
    cases h1
    exact h3
  have nqp : F.P.qs ≠ p := fun z => I.ei.nq (z ▸ op)
  have t : Tr (ownS F.O0 σ env) H (ownS F.O0 σ (env.set i (.ow d'))) (L2.upd H p o) := .of fun a u na e => ⟨fun z => na (same a z), (upd_ne (show a ≠ p from fun z => na (by rw [z]; exact op))).trans e⟩
  have t2 : Tr (ownS F.O0 σ env) (L2.upd H p o) (ownS F.O0 σ (env.set i (.ow d'))) (L2.upd H p o) := .of fun a u na e => ⟨fun z => na (same a z), e⟩
  refine ⟨⟨⟨.inl I.ps0, fun z => I.ei.nq (same _ z), fun a z => ?_, ⟨(upd_ne fun z => np z.symm).trans I.ei.sm.1, (upd_ne nqp).trans I.ei.sm.2⟩, by rw [List.length_set]; exact I.ei.len, fun j e h => ?_, fun j e h => ?_⟩, fun a u na e => ?_, fun j e q h1 h2 => let ⟨e0, h3⟩ := getW j e h1; I.new j e0 q h3 h2, fun j k e e' q h1 h2 h3 h4 => let ⟨e0, h5⟩ := getW j e h1; let ⟨e1, h6⟩ := getW k e' h2; I.dis j k e0 e1 q h5 h6 h3 h4, I.o0, I.ps0⟩, t⟩
  · by_cases hap : a = p
    · rw [hap, upd_same]; simp
    · rw [upd_ne hap]; exact I.ei.dom a (same a z)
  · by_cases hj : i = j
    · subst hj
      rw [List.getElem?_set_self hi] at h
      cases h
    · rw [List.getElem?_set_ne hj] at h
      obtain ⟨u, h1, h2⟩ := I.ei.fz j e h
      exact ⟨u, h1, h2.tr t⟩
  · rcases get j e h with ⟨rfl, rfl⟩ | ⟨hj, h3⟩
    · exact ⟨p, hσ, same2 p op, np, ho.mono t2 fun _ z => z⟩
    · obtain ⟨q, k1, k2, k3, k4⟩ := I.ei.ow j e h3
      have hq : q ≠ p := fun z => hj (I.dis j i e d p h3 he (z ▸ k1) hσ)
      exact ⟨q, k1, same2 q k2, k3, k4.mono t fun u z => (upd_ne hq).trans z⟩
  · have hap : a ≠ p := fun z => by
      have := I.new i d p he hσ
      rw [z, this] at e
      cases e
    exact (upd_ne hap).trans (I.frm a u na e)
end PD

namespace PD
open PySem PySem.Spec PyProof.Rows L2
/-! ### stores -/
def mSet (i : Nat) (a : M) : MS' := fun env S => (a env S).bind fun r => if i < env.length then some (.nx (env.set i (.fz r.1)), r.2) else none
def mSetN (i : Nat) (a : M) : MS' := fun env S => (a env S).bind fun r => if i < env.length then some (.nx (env.set i (.ow r.1)), r.2) else none
theorem ss_set {i : Nat} {te : TE} {a : M} (h : SE te a) : SS (tAsg te (gName i)) (mSet i a) := by
  intro F σ H env S out D I e p
  unfold mSet at e
  cases ea : a env S with
  | none => rw [ea] at e; cases e
  | some r =>
    rw [ea] at e
    simp only [Option.bind_some] at e
    split at e
    · rename_i hi
      cases e
      refine h _ F.P σ H env S r _ I.ei ea fun v H1 f s rv => ?_
      obtain ⟨J, t⟩ := (I.fr f s).setF hi rv
      exact p _ H1 J ((f.tr I.ei.ops).trans t)
    · cases e
theorem ss_setN {i : Nat} {te : TE} {a : M} (h : SN te a) : SS (tAsg te (gName i)) (mSetN i a) := by
  intro F σ H env S out D I e p
  unfold mSetN at e
  cases ea : a env S with
  | none => rw [ea] at e; cases e
  | some r =>
    rw [ea] at e
    simp only [Option.bind_some] at e
    split at e
    · rename_i hi
      cases e
      refine h _ F.P σ H env S r _ I.ei ea fun q H1 n np f s o => ?_
      obtain ⟨J, t⟩ := I.setO hi n np f s o
      exact p _ H1 J t
    · cases e
def mAsg (b : MG) (a : M) : MS' := fun env S => (a env S).bind fun r => (b r.1 env).map fun env1 => (.nx env1, r.2)
/-- behind a target's store -/
theorem SInv.sets {F : FX} {σ σ' : L2.St} {H : Hp} {env env' : DEnv} {S : Sm} {ix : List Nat} (I : SInv F σ H env S) (J : EI (ownS F.O0 σ env) F.P σ' H env' S) (st : Sets ix σ σ' env env') : SInv F σ' H env' S ∧ Tr (ownS F.O0 σ env) H (ownS F.O0 σ' env') H := by
  refine I.less J.len (fun i d h => ⟨(st.ow i d).mp h, st.owS i d ((st.ow i d).mp h)⟩) fun i d h => ?_
  obtain ⟨v, h1, h2⟩ := J.fz i d h
  have t : Tr (ownS F.O0 σ env) H (ownS F.O0 σ' env') H := .of fun a u na e => ⟨fun z => na (own_sub (fun i d h => ⟨(st.ow i d).mp h, st.owS i d ((st.ow i d).mp h)⟩) a z), e⟩
  exact ⟨v, h1, h2.tr t⟩
theorem ss_asg {te : TE} {g : TG} {a : M} {ix : List Nat} {b : MG} (h : SE te a) (hg : SG g ix b) : SS (tAsg te g) (mAsg b a) := by
  intro F σ H env S out D I e p
  unfold mAsg at e
  cases ea : a env S with
  | none => rw [ea] at e; cases e
  | some r =>
    rw [ea] at e
    simp only [Option.bind_some] at e
    cases eb : b r.1 env with
    | none => rw [eb] at e; cases e
    | some env1 =>
      rw [eb] at e
      cases e
      refine h _ F.P σ H env S r _ I.ei ea fun v H1 f s rv => ?_
      have I1 := I.fr f s
      refine hg _ F.P σ H1 env env1 r.2 v r.1 _ I1.ei rv eb fun σ' J st => ?_
      obtain ⟨K, t⟩ := I1.sets J st
      exact p _ H1 K ((f.tr I.ei.ops).trans t)
/-- a list that was ours is given away -/
def mFrz (i : Nat) : MS' → MS' := fun a env S => match env[i]? with
  | some (.ow d) => a (env.set i (.fz d)) S
  | _ => a env S
theorem SInv.frz {F : FX} {σ : L2.St} {H : Hp} {env : DEnv} {S : Sm} {i : Nat} {d : Dat} (I : SInv F σ H env S) (hd : env[i]? = some (.ow d)) : SInv F σ H (env.set i (.fz d)) S ∧ Tr (ownS F.O0 σ env) H (ownS F.O0 σ (env.set i (.fz d))) H := by
  obtain ⟨q, h1, h2, h3, h4⟩ := I.ei.ow i d hd
  have hi : i < env.length := (List.getElem?_eq_some_iff.mp hd).1
  have hh : ∀ (j : Nat) e, (env.set i (.fz d))[j]? = some (.ow e) → env[j]? = some (.ow e) ∧ σ[j]? = σ[j]? := fun j e h => ⟨(set_ow (fun _ z => by cases z) h).2, rfl⟩
  have t0 : Tr (ownS F.O0 σ env) H (ownS F.O0 σ (env.set i (.fz d))) H := .of fun a u na e => ⟨fun z => na (own_sub hh a z), e⟩
  have nq : ¬ ownS F.O0 σ (env.set i (.fz d)) q := fun z => z.elim (fun z => I.o0 q z (I.new i d q hd h1)) fun ⟨j, e, k1, k2⟩ => by
    obtain ⟨k3, k4⟩ := set_ow (fun _ z => by cases z) k1
    exact k3 (I.dis i j d e q hd k4 h1 k2)
  exact I.less (by rw [List.length_set]; exact I.ei.len) hh fun j e hj => by
    by_cases hij : i = j
    · subst hij
      rw [List.getElem?_set_self hi] at hj
      cases hj
      exact ⟨_, h1, (h4.mono t0 fun _ z => z).rep nq⟩
    · rw [List.getElem?_set_ne hij] at hj
      obtain ⟨v, k1, k2⟩ := I.ei.fz j e hj
      exact ⟨v, k1, k2.tr t0⟩
theorem ss_frz {i : Nat} {t : TS} {a : MS'} (h : SS t a) : SS t (mFrz i a) := by
  intro F σ H env S out D I e p
  unfold mFrz at e
  split at e
  · rename_i d hd
    obtain ⟨J, t1⟩ := I.frz hd
    exact h F σ H _ S out D J e (p.back t1)
  · exact h F σ H env S out D I e p
/-- the same behind the statement -/
def mThenF (i : Nat) (a : MS') : MS' := fun env S => (a env S).bind fun r => match r.1 with
  | .nx env1 => match env1[i]? with
    | some (.ow d) => some (.nx (env1.set i (.fz d)), r.2)
    | _ => none
  | _ => none
theorem ss_thenF {i : Nat} {t : TS} {a : MS'} (h : SS t a) : SS t (mThenF i a) := by
  intro F σ H env S out D I e p
  unfold mThenF at e
  cases ea : a env S with
  | none => rw [ea] at e; cases e
  | some r =>
    rw [ea] at e
    simp only [Option.bind_some] at e
    obtain ⟨f, S'⟩ := r
    cases f with
    | nx env1 =>
      simp only at e
      split at e
      · rename_i d hd
        cases e
        refine h F σ H env S _ D I ea fun σ' H' J t' => ?_
        obtain ⟨K, t2⟩ := J.frz hd
        exact p σ' H' K (t'.trans t2)
      · cases e
    | bk env1 => cases e
    | ct env1 => cases e
    | rt d => cases e
/-! ### return, a dropped value -/
def mRet (a : M) : MS' := fun env S => (a env S).map fun r => (.rt r.1, r.2)
theorem ss_ret {te : TE} {a : M} (h : SE te a) : SS (tRet te) (mRet a) := by
  intro F σ H env S out D I e p
  unfold mRet at e
  cases ea : a env S with
  | none => rw [ea] at e; cases e
  | some r =>
    rw [ea] at e
    cases e
    refine h _ F.P σ H env S r _ I.ei ea fun v H1 f s rv => ?_
    have t : Tr (ownS F.O0 σ env) H1 F.O0 H1 := .of fun a u na e => ⟨fun z => na (.inl z), e⟩
    exact p v H1 (I.frm.trans f) s (rv.tr t)
/-- return x, x any name of the def -/
def mRetV (i : Nat) : MS' := fun env S => match env[i]? with
  | some (.fz d) => some (.rt d, S)
  | some (.ow d) => some (.rt d, S)
  | _ => none
theorem ss_retV (i : Nat) : SS (tRet (tVar i)) (mRetV i) := by
  intro F σ H env S out D I e p
  have t : Tr (ownS F.O0 σ env) H F.O0 H := .of fun a u na e => ⟨fun z => na (.inl z), e⟩
  unfold mRetV at e
  split at e
  · rename_i d h
    cases e
    obtain ⟨v, h1, h2⟩ := I.ei.fz i d h
    exact ⟨v, h1, p v H I.frm I.ei.sm (h2.tr t)⟩
  · rename_i d h
    cases e
    obtain ⟨q, h1, h2, h3, h4⟩ := I.ei.ow i d h
    exact ⟨_, h1, p _ H I.frm I.ei.sm ((h4.mono t fun _ z => z).rep fun z => I.o0 q z (I.new i d q h h1))⟩
  · cases e
def mRetN : MS' := fun env S => some (.rt .non, S)
theorem ss_retN : SS tRetN mRetN := fun F σ H env S out D I e p => by
  cases e
  exact p .non H I.frm I.ei.sm .non
def mDrop (a : M) : MS' := fun env S => (a env S).map fun r => (.nx env, r.2)
theorem ss_drop {te : TE} {a : M} (h : SE te a) : SS (tDrop te) (mDrop a) := by
  intro F σ H env S out D I e p
  unfold mDrop at e
  cases ea : a env S with
  | none => rw [ea] at e; cases e
  | some r =>
    rw [ea] at e
    cases e
    exact h _ F.P σ H env S r _ I.ei ea fun v H1 f s rv => p σ H1 (I.fr f s) (f.tr I.ei.ops)
/-! ### a list of one's own: append, extend, an item -/
def mApp (i : Nat) (a : M) : MS' := fun env S => match env[i]? with
  | some (.ow (.lst ds)) => (a env S).bind fun r => if ds.length < 1000000 then some (.nx (env.set i (.ow (.lst (ds ++ [r.1])))), r.2) else none
  | _ => none
theorem lt1m {n : Nat} (h : n < 1000000) : n < sizeLine := Nat.lt_of_lt_of_le h (by decide)
theorem ss_app {K : PySem.W.Frag} {i : Nat} {te : TE} {a : M} (h : SE te a) : SS (tDrop (tBM K "list" rAppend (tVar i) (tCons te tNil))) (mApp i a) := by
  intro F σ H env S out D I e p
  unfold mApp at e
  split at e
  · rename_i ds hd
    cases ea : a env S with
    | none => rw [ea] at e; cases e
    | some r =>
      rw [ea] at e
      simp only [Option.bind_some] at e
      split at e
      · rename_i hz
        cases e
        obtain ⟨q, h1, h2, h3, h4⟩ := I.ei.ow i _ hd
        have h4' := h4
        obtain ⟨vs, k1, k2, k3⟩ := h4
        refine ⟨_, h1, .inl ⟨rfl, vs, SqL.of k1⟩, ?_⟩
        refine h _ F.P σ H env S r _ I.ei ea fun v H1 f s rv => ?_
        have I1 := I.fr f s
        obtain ⟨q', j1, j2, j3, j4⟩ := I1.ei.ow i _ hd
        rw [h1] at j1
        cases j1
        obtain ⟨vs', l1, l2, l3⟩ := j4
        have hz' : vs'.length < sizeLine := by rw [l3.len]; exact lt1m hz
        refine ⟨q, vs', v, rfl, rfl, l1, hz', ?_⟩
        have tU : Tr (ownS F.O0 σ env) H1 (ownS F.O0 σ env) (upd H1 q (.lst (vs' ++ [v]))) := .of fun b u nb e => ⟨nb, (upd_ne (show b ≠ q from fun z => nb (by rw [z]; exact h2))).trans e⟩
        obtain ⟨J, t⟩ := I1.upd (d' := .lst (ds ++ [r.1])) hd h1 (o := .lst (vs' ++ [v])) ⟨_, upd_same, by rw [List.length_append]; exact hz', (l3.app (.cons rv .nil)).tr tU⟩
        exact p σ _ J ((f.tr I.ei.ops).trans t)
      · cases e
  · cases e
def mExt (i : Nat) (a : M) : MS' := fun env S => match env[i]? with
  | some (.ow (.lst ds)) => (a env S).bind fun r => match r.1 with
    | .lst es => if ds.length + es.length < 1000000 then some (.nx (env.set i (.ow (.lst (ds ++ es)))), r.2) else none
    | _ => none
  | _ => none
theorem ss_ext {K : PySem.W.Frag} {i : Nat} {te : TE} {a : M} (h : SE te a) : SS (tDrop (tBM K "list" rExtend (tVar i) (tCons te tNil))) (mExt i a) := by
  intro F σ H env S out D I e p
  unfold mExt at e
  split at e
  · rename_i ds hd
    cases ea : a env S with
    | none => rw [ea] at e; cases e
    | some r =>
      rw [ea] at e
      simp only [Option.bind_some] at e
      split at e
      · rename_i es he
        split at e
        · rename_i hz
          cases e
          obtain ⟨q, h1, h2, h3, h4⟩ := I.ei.ow i _ hd
          obtain ⟨vs, k1, k2, k3⟩ := h4
          refine ⟨_, h1, .inl ⟨rfl, vs, SqL.of k1⟩, ?_⟩
          refine h _ F.P σ H env S r _ I.ei ea fun v H1 f s rv => ?_
          have I1 := I.fr f s
          obtain ⟨q', j1, j2, j3, j4⟩ := I1.ei.ow i _ hd
          rw [h1] at j1
          cases j1
          obtain ⟨vs', l1, l2, l3⟩ := j4
          rw [he] at rv
          cases rv with
          | @lst b ws es' hb nb hbz lb =>
          have hz' : vs'.length + ws.length ≤ sizeLine := by rw [l3.len, lb.len]; exact Nat.le_of_lt (lt1m hz)
          refine ⟨q, b, vs', ws, rfl, rfl, l1, hb, hz', ?_⟩
          have tU : Tr (ownS F.O0 σ env) H1 (ownS F.O0 σ env) (upd H1 q (.lst (vs' ++ ws))) := .of fun b u nb e => ⟨nb, (upd_ne (show b ≠ q from fun z => nb (by rw [z]; exact h2))).trans e⟩
          obtain ⟨J, t⟩ := I1.upd (d' := .lst (ds ++ es)) hd h1 (o := .lst (vs' ++ ws)) ⟨_, upd_same, by rw [List.length_append]; exact hz', (l3.app lb).tr tU⟩
          exact p σ _ J ((f.tr I.ei.ops).trans t)
        · cases e
      · cases e
  · cases e
/-- x[k] = e, x a list of one's own -/
def mPutI (i : Nat) (k a : M) : MS' := fun env S => (a env S).bind fun r => match env[i]? with
  | some (.ow (.lst ds)) => (k env r.2).bind fun y => match y.1 with
    | .int j => (ixN ds.length j).map fun n => (.nx (env.set i (.ow (.lst (ds.set n r.1)))), y.2)
    | _ => none
  | _ => none
theorem ss_putI {i : Nat} {te tk : TE} {k a : M} (h : SE te a) (hk : SE tk k) : SS (tAsg te (gSub (tVar i) tk rSetL)) (mPutI i k a) := by
  intro F σ H env S out D I e p
  unfold mPutI at e
  cases ea : a env S with
  | none => rw [ea] at e; cases e
  | some r =>
    rw [ea] at e
    simp only [Option.bind_some] at e
    split at e
    · rename_i ds hd
      refine h _ F.P σ H env S r _ I.ei ea fun v H1 f s rv => ?_
      have I1 := I.fr f s
      obtain ⟨q, h1, h2, h3, h4⟩ := I1.ei.ow i _ hd
      refine ⟨_, h1, ?_⟩
      cases ek : k env r.2 with
      | none => rw [ek] at e; cases e
      | some y =>
        rw [ek] at e
        simp only [Option.bind_some] at e
        split at e
        · rename_i j hj
          cases en : ixN ds.length j with
          | none => rw [en] at e; cases e
          | some n =>
            rw [en] at e
            cases e
            refine hk _ F.P σ H1 env r.2 y _ I1.ei ek fun u H2 f2 s2 ru => ?_
            rw [hj] at ru
            cases ru
            have I2 := I1.fr f2 s2
            obtain ⟨q', j1, j2, j3, j4⟩ := I2.ei.ow i _ hd
            rw [h1] at j1
            cases j1
            obtain ⟨vs', l1, l2, l3⟩ := j4
            refine ⟨q, vs', j, n, rfl, rfl, l1, by rw [l3.len]; exact en, ?_⟩
            have tU : Tr (ownS F.O0 σ env) H2 (ownS F.O0 σ env) (upd H2 q (.lst (vs'.set n v))) := .of fun b u nb e => ⟨nb, (upd_ne (show b ≠ q from fun z => nb (by rw [z]; exact h2))).trans e⟩
            obtain ⟨J, t⟩ := I2.upd (d' := .lst (ds.set n r.1)) hd h1 (o := .lst (vs'.set n v)) ⟨_, upd_same, by rw [List.length_set]; exact l2, ((l3.set (rv.tr (f2.tr I.ei.ops)) n)).tr tU⟩
            exact p σ _ J (((f.trans f2).tr I.ei.ops).trans t)
        · cases e
    · cases e
/-! ### the stream -/
/-- stream[j], j written -/
def mStrI (i : Nat) (j : Int) : M := fun env S => match env[i]? with
  | some (.fz .strm) => if j = 0 then some (.lst (S.scr.map .int), S) else if j = 1 then some (.int S.cell, S) else if j = 2 then some (.int S.k, S) else none
  | _ => none
theorem repL_ints {O : Addr → Prop} {ps : Addr} {H : Hp} : ∀ ns : List Int, RepL O ps H (ns.map V.int) (ns.map Dat.int)
  | [] => .nil
  | n :: ns => .cons (.int n) (repL_ints ns)
def mStr (i : Nat) (j : Int) : M := fun env S => if S.scr.length ≤ 1000 then mStrI i j env S else none
theorem se_strI {K : PySem.W.Frag} (i : Nat) (j : Int) : SE (tOp (rIxL K) (tVar i) (tC (.int j))) (mStr i j) := by
  intro O P σ H env S r Q I e q
  unfold mStr at e
  split at e
  · rename_i hz
    unfold mStrI at e
    split at e
    · rename_i h
      obtain ⟨v, h1, h2⟩ := I.fz i _ h
      cases h2
      split at e
      · rename_i hj
        cases e
        subst hj
        exact ⟨_, h1, P.ps, _, 0, _, rfl, rfl, SqL.of I.sm.1, rfl, q _ H .refl I.sm (.lst I.sm.2 I.nq (by rw [List.length_map]; exact le1000 hz) (repL_ints _))⟩
      · split at e
        · rename_i hj
          cases e
          subst hj
          exact ⟨_, h1, P.ps, _, 1, _, rfl, rfl, SqL.of I.sm.1, rfl, q _ H .refl I.sm (.int _)⟩
        · split at e
          · rename_i hj
            cases e
            subst hj
            exact ⟨_, h1, P.ps, _, 2, _, rfl, rfl, SqL.of I.sm.1, rfl, q _ H .refl I.sm (.int _)⟩
          · cases e
    · cases e
  · cases e
theorem pd_strI {X : Cx} {x : Str} {j : Int} {px p2 pos : Pos} (i : Nat) {kk} (hN : X.N[i]? = some x := by rfl) (hv : Vis X.env.scope x := by first | exact Or.inl rfl | exact Or.inr (Or.inl rfl) | exact Or.inr (Or.inr rfl)) (hd : (x == ("__debug__" : Str)) = false := by decide)
    (hcd : (x == ("__classdict__" : Str)) = false := by decide) (hs : PlainIx (.Constant (.int j) kk p2) := by exact fun _ _ => rfl) : PDE X (.Subscript (.Name x px) (.Constant (.int j) kk p2) pos) (tOp (rIxL X.K) (tVar i) (tC (.int j))) (mStr i j) :=
  ⟨pe_ix ix_list (pe_var hN hv hd hcd) pe_int hs, se_strI i j⟩
/-- stream[j] = e, j = 1 or 2 -/
def mStrP (i : Nat) (j : Int) (a : M) : MS' := fun env S => (a env S).bind fun r => match env[i]?, r.1 with
  | some (.fz .strm), .int n => if j = 1 then some (.nx env, { r.2 with cell := n }) else if j = 2 then some (.nx env, { r.2 with k := n }) else none
  | _, _ => none
theorem ss_strP {i : Nat} {j : Int} {te : TE} {a : M} (h : SE te a) : SS (tAsg te (gSub (tVar i) (tC (.int j)) rSetL)) (mStrP i j a) := by
  intro F σ H env S out D I e p
  unfold mStrP at e
  cases ea : a env S with
  | none => rw [ea] at e; cases e
  | some r =>
    rw [ea] at e
    simp only [Option.bind_some] at e
    split at e
    · rename_i n hd hr
      refine h _ F.P σ H env S r _ I.ei ea fun v H1 f s rv => ?_
      have I1 := I.fr f s
      rw [hr] at rv
      cases rv
      obtain ⟨u, h1, h2⟩ := I1.ei.fz i _ hd
      cases h2
      have nq : F.P.qs ≠ F.P.ps := fun z => I.ei.nq (z ▸ I.ei.ops)
      have go : ∀ (S' : Sm) (xs : List V), S'.scr = r.2.scr → xs = [.ref F.P.qs, .int S'.cell, .int S'.k] → Fr F.P H1 (upd H1 F.P.ps (.lst xs)) ∧ StrmAt F.P (upd H1 F.P.ps (.lst xs)) S' := fun S' xs e1 e5 =>
        ⟨fun a o na e => (upd_ne na).trans e, by rw [upd_same, e5], by rw [upd_ne nq, e1]; exact s.2⟩
      split at e
      · rename_i hj
        cases e
        subst hj
        obtain ⟨f2, s2⟩ := go { r.2 with cell := n } [.ref F.P.qs, .int n, .int r.2.k] rfl rfl
        exact ⟨_, h1, F.P.ps, _, 1, 1, rfl, rfl, s.1, rfl, p σ _ (I1.fr f2 s2) ((f.trans f2).tr I.ei.ops)⟩
      · split at e
        · rename_i hj
          cases e
          subst hj
          obtain ⟨f2, s2⟩ := go { r.2 with k := n } [.ref F.P.qs, .int r.2.cell, .int n] rfl rfl
          exact ⟨_, h1, F.P.ps, _, 2, 2, rfl, rfl, s.1, rfl, p σ _ (I1.fr f2 s2) ((f.trans f2).tr I.ei.ops)⟩
        · cases e
    · cases e
/-! ### for -/
def forGo (b : MG) (body : MS') : List Dat → DEnv → Sm → Option (Fl × Sm)
  | [], env, S => some (.nx env, S)
  | d :: ds, env, S => (b d env).bind fun env1 => (body env1 S).bind fun r => match r.1 with
    | .nx e => forGo b body ds e r.2
    | .ct e => forGo b body ds e r.2
    | .bk e => some (.nx e, r.2)
    | .rt d => some (.rt d, r.2)
def mFor (mi : ML) (b : MG) (body : MS') : MS' := fun env S => (mi env S).bind fun r => forGo b body r.1 env r.2
theorem ss_for {wi : TI} {g : TG} {tb : TS} {mi : ML} {ix : List Nat} {b : MG} {body : MS'} (hi : SF wi mi) (hg : SG g ix b) (hb : SS tb body) : SS (tFor wi g tb) (mFor mi b body) := by
  intro F σ H env S out D I e p
  unfold mFor at e
  cases ei : mi env S with
  | none => rw [ei] at e; cases e
  | some it =>
    rw [ei] at e
    simp only [Option.bind_some] at e
    refine hi _ F.P σ H env S it _ I.ei ei fun J H1 f1 s1 ok => ?_
    have I1 := I.fr f1 s1
    have p1 := p.back (f1.tr I.ei.ops)
    refine ⟨fun i k σ' H' => ∃ env' S', k = it.1.length - i ∧ i ≤ it.1.length ∧ SInv F σ' H' env' S' ∧ Tr (ownS F.O0 σ env) H1 (ownS F.O0 σ' env') H' ∧ forGo b body (it.1.drop i) env' S' = some out,
      ⟨_, env, it.2, rfl, Nat.zero_le _, I1, .refl, by rw [List.drop_zero]; exact e⟩, ?_⟩
    rintro i k σ' H' ⟨env', S', rfl, hil, I', t', go⟩
    have lt' : Lt2 (ownS F.O0 σ env) H1 (ownS F.O0 σ' env') H' := ⟨t', I'.ei.dom⟩
    by_cases hlt : i < it.1.length
    · have hd : it.1[i]? = some it.1[i] := List.getElem?_eq_getElem hlt
      rw [List.drop_eq_getElem_cons hlt] at go
      unfold forGo at go
      refine .inr ⟨ok.go _ H' i lt' hlt, fun σ2 H2 => ∃ k', k' < it.1.length - i ∧ ∃ env2 S2, k' = it.1.length - (i + 1) ∧ i + 1 ≤ it.1.length ∧ SInv F σ2 H2 env2 S2 ∧ Tr (ownS F.O0 σ env) H1 (ownS F.O0 σ2 env2) H2 ∧ forGo b body (it.1.drop (i + 1)) env2 S2 = some out,
        fun _ _ h => h, fun x H2 hy => ?_⟩
      obtain ⟨sm2, rx⟩ := ok.yld _ H' i x H2 _ lt' hd hy
      have f2 : Fr F.P H' H2 := fun a o _ h => sm2 a o h
      have s2 : StrmAt F.P H2 S' := ⟨sm2 _ _ I'.ei.sm.1, sm2 _ _ I'.ei.sm.2⟩
      have I2 := I'.fr f2 s2
      cases eb : b it.1[i] env' with
      | none => rw [eb] at go; cases go
      | some env1 =>
        rw [eb] at go
        simp only [Option.bind_some] at go
        refine hg _ F.P σ' H2 env' env1 S' x _ _ I2.ei rx eb fun σ1 J1 st => ?_
        obtain ⟨I3, t3⟩ := I2.sets J1 st
        have t03 := (t'.trans (f2.tr I'.ei.ops)).trans t3
        cases ec : body env1 S' with
        | none => rw [ec] at go; cases go
        | some r =>
          rw [ec] at go
          simp only [Option.bind_some] at go
          refine hb F σ1 H2 env1 S' r _ I3 ec ?_
          obtain ⟨fl, S3⟩ := r
          cases fl with
          | nx e3 => exact fun σ3 H3 I4 t4 => ⟨_, Nat.sub_lt_sub_left hlt (Nat.lt_succ_self i), e3, S3, rfl, hlt, I4, t03.trans t4, go⟩
          | ct e3 => exact fun σ3 H3 I4 t4 => ⟨_, Nat.sub_lt_sub_left hlt (Nat.lt_succ_self i), e3, S3, rfl, hlt, I4, t03.trans t4, go⟩
          | bk e3 =>
            cases go
            exact fun σ3 H3 I4 t4 => p1 σ3 H3 I4 (t03.trans t4)
          | rt d =>
            cases go
            exact p1
    · rw [List.drop_of_length_le (by omega)] at go
      unfold forGo at go
      cases go
      have hi' : i = it.1.length := by omega
      exact .inl ⟨hi' ▸ ok.stop _ H' lt', p1 σ' H' I' t'⟩
/-! ### while -/
def whGo (c : MT) (body : MS') : Nat → DEnv → Sm → Option (Fl × Sm)
  | 0, _, _ => none
  | n + 1, env, S => (c env S).bind fun t => if t.1 = true then (body env t.2).bind fun r => match r.1 with
      | .nx e => whGo c body n e r.2
      | .ct e => whGo c body n e r.2
      | .bk e => some (.nx e, r.2)
      | .rt d => some (.rt d, r.2)
    else some (.nx env, t.2)
theorem ss_while {tc : TT} {tb : TS} {c : MT} {body : MS'} (n : Nat) (hc : ST tc c) (hb : SS tb body) : SS (tWhile tc tb) (whGo c body n) := by
  intro F σ H env S out D I e p
  refine ⟨fun k σ' H' => ∃ env' S', SInv F σ' H' env' S' ∧ Tr (ownS F.O0 σ env) H (ownS F.O0 σ' env') H' ∧ whGo c body k env' S' = some out, ⟨n, env, S, I, .refl, e⟩, ?_⟩
  rintro k σ' H' ⟨env', S', I', t', go⟩
  cases k with
  | zero => cases go
  | succ k =>
    unfold whGo at go
    cases ec : c env' S' with
    | none => rw [ec] at go; cases go
    | some t =>
      rw [ec] at go
      simp only [Option.bind_some] at go
      refine hc _ F.P σ' H' env' S' t _ I'.ei ec fun H2 f2 s2 => ?_
      have I2 := I'.fr f2 s2
      have t02 := t'.trans (f2.tr I'.ei.ops)
      split
      · rename_i ht
        rw [if_pos ht] at go
        cases eb : body env' t.2 with
        | none => rw [eb] at go; cases go
        | some r =>
          rw [eb] at go
          simp only [Option.bind_some] at go
          refine ⟨fun σ3 H3 => ∃ k', k' < k + 1 ∧ ∃ env3 S3, SInv F σ3 H3 env3 S3 ∧ Tr (ownS F.O0 σ env) H (ownS F.O0 σ3 env3) H3 ∧ whGo c body k' env3 S3 = some out, fun _ _ h => h, ?_⟩
          refine hb F σ' H2 env' t.2 r _ I2 eb ?_
          obtain ⟨fl, S3⟩ := r
          cases fl with
          | nx e3 => exact fun σ3 H3 I4 t4 => ⟨k, Nat.lt_succ_self k, e3, S3, I4, t02.trans t4, go⟩
          | ct e3 => exact fun σ3 H3 I4 t4 => ⟨k, Nat.lt_succ_self k, e3, S3, I4, t02.trans t4, go⟩
          | bk e3 =>
            cases go
            exact fun σ3 H3 I4 t4 => p σ3 H3 I4 (t02.trans t4)
          | rt d =>
            cases go
            exact p
      · rename_i ht
        rw [if_neg ht] at go
        cases go
        exact p σ' H2 I2 t02
/-! ### x += e -/
def mAug (i : Nat) (g : Dat → Dat → Option Dat) (a : M) : MS' := fun env S => match env[i]? with
  | some (.fz d) => (a env S).bind fun r => (g d r.1).map fun z => (.nx (env.set i (.fz z)), r.2)
  | _ => none
theorem ss_aug {i : Nat} {te : TE} {a : M} {ti : TIp} {g : Dat → Dat → Option Dat} (h : SB te a) (ht : R2S ti g) : SS (tAug i te ti) (mAug i g a) := by
  intro F σ H env S out D I e p
  unfold mAug at e
  split at e
  · rename_i d hd
    cases ea : a env S with
    | none => rw [ea] at e; cases e
    | some r =>
      rw [ea] at e
      simp only [Option.bind_some] at e
      cases eg : g d r.1 with
      | none => rw [eg] at e; cases e
      | some z =>
        rw [eg] at e
        cases e
        obtain ⟨v, h1, h2⟩ := I.ei.fz i d hd
        refine ⟨v, h1, h _ F.P σ H env S r _ I.ei ea fun u H1 f s ru => ?_⟩
        have I1 := I.fr f s
        refine ht _ F.P H1 r.2 v u d r.1 z _ I1.ei.hi (.inl (h2.tr (f.tr I.ei.ops))) ru eg fun w H2 f2 s2 rw' => ?_
        obtain ⟨J, t⟩ := (I1.fr f2 s2).setF (List.getElem?_eq_some_iff.mp hd).1 rw'
        exact p _ H2 J (((f.trans f2).tr I.ei.ops).trans t)
  · cases e
theorem r2_ipAdd : R2S (ipI fun i j => i + j) (gI0 fun i j => .int (i + j)) := by
  intro O P H S x y d e z Q I rx ry eg q
  unfold gI0 at eg
  split at eg
  · cases eg
    exact ⟨_, _, rx.int, ry.int, q _ H .refl I.sm (.int _)⟩
  · cases eg
theorem r2_ipSub : R2S (ipI fun i j => i - j) (gI0 fun i j => .int (i - j)) := by
  intro O P H S x y d e z Q I rx ry eg q
  unfold gI0 at eg
  split at eg
  · cases eg
    exact ⟨_, _, rx.int, ry.int, q _ H .refl I.sm (.int _)⟩
  · cases eg
/-! ### statements as terms -/
section
variable {X : Cx} {pos pos' : Pos} {x : Str} {e : Expr} {te : TE} {a : M}
theorem pds_set {i : Nat} (hN : X.N.Nodup) (hi : X.N[i]? = some x) (hx : Loc X.env.scope x) (he : PDE X e te a) (hs : swapsWith e (some (.Name x pos')) pos.line X.env = pure false := by rfl) (hf : X.fn x = true ∨ X.env.scope.names.lookup x = some .local := by first | exact .inl rfl | exact .inr rfl | assumption) :
    PDS X (.Assign [.Name x pos'] e pos) (tAsg te (gName i)) (mSet i a) := ⟨ps_set hN hi hx he.pe hs hf, ss_set he.sem⟩
theorem pds_setN {i : Nat} (hN : X.N.Nodup) (hi : X.N[i]? = some x) (hx : Loc X.env.scope x) (he : PDN X e te a) (hs : swapsWith e (some (.Name x pos')) pos.line X.env = pure false := by rfl) (hf : X.fn x = true ∨ X.env.scope.names.lookup x = some .local := by first | exact .inl rfl | exact .inr rfl | assumption) :
    PDS X (.Assign [.Name x pos'] e pos) (tAsg te (gName i)) (mSetN i a) := ⟨ps_set hN hi hx he.pe hs hf, ss_setN he.sem⟩
theorem pds_asg {tg : Expr} {g : TG} {ix : List Nat} {b : MG} (he : PDE X e te a) (hg : PDG X tg g ix b) (hs : swapsWithSole [tg] e pos.line X.env = pure false := by rfl) (hw : swappedStores [tg] e X.env = pure none := by rfl)
    (h1 : (assignEach [tg] X.env).map (·.2) = [assign tg X.env] := by rfl) : PDS X (.Assign [tg] e pos) (tAsg te g) (mAsg b a) := ⟨ps_asg he.pe hg.pg hs hw h1, ss_asg he.sem hg.sem⟩
theorem pds_ret (he : PDE X e te a) : PDS X (.Return (some e) pos) (tRet te) (mRet a) := ⟨ps_ret he.pe, ss_ret he.sem⟩
theorem pds_retV (i : Nat) (hN : X.N[i]? = some x := by rfl) (hv : Vis X.env.scope x := by first | exact Or.inl rfl | exact Or.inr (Or.inl rfl) | exact Or.inr (Or.inr rfl)) (hd : (x == ("__debug__" : Str)) = false := by decide)
    (hcd : (x == ("__classdict__" : Str)) = false := by decide) : PDS X (.Return (some (.Name x pos')) pos) (tRet (tVar i)) (mRetV i) := ⟨ps_ret (pe_var hN hv hd hcd), ss_retV i⟩
theorem pds_retN : PDS X (.Return none pos) tRetN mRetN := ⟨ps_retN, ss_retN⟩
theorem pds_expr (he : PDE X e te a) (hs : swapsWith e none pos.line X.env = pure false := by rfl) : PDS X (.Expr e pos) (tDrop te) (mDrop a) := ⟨ps_expr he.pe hs, ss_drop he.sem⟩
theorem pds_for {tg iter : Expr} {body : List Stmt} {wi : TI} {g : TG} {tb : TS} {mi : ML} {ix : List Nat} {b : MG} {mb : MS'} (hp : PassesOwn (model X.prog X.w) X.A X.env X.xe) (hc : X.calm = true) (hi : PDF X tg iter wi mi) (hg : PDG X tg g ix b) (hb : PDSs X body tb mb)
    (hs : ∀ x, foldedSetIterable iter X.env x = pure x := by intro _; rfl) : PDS X (.For tg iter body [] pos) (tFor wi g tb) (mFor mi b mb) := ⟨ps_for hp hc hi.pi hg.pg hb.ps hs, ss_for hi.sem hg.sem hb.sem⟩
theorem pds_while {c : Expr} {body : List Stmt} {tc : TT} {tb : TS} {mc : MT} {mb : MS'} (n : Nat) (hp : PassesOwn (model X.prog X.w) X.A X.env X.xe) (hc : PDT X c tc mc) (hb : PDSs X body tb mb) : PDS X (.While c body [] pos) (tWhile tc tb) (whGo mc mb n) :=
  ⟨ps_while hp hc.pt hb.ps, ss_while n hc.sem hb.sem⟩
theorem pds_aug {i : Nat} {op : Operator} {ti : TIp} {g : Dat → Dat → Option Dat} (hN : X.N.Nodup) (hi : X.N[i]? = some x) (hx : Loc X.env.scope x) (he : PDB X e te a) (ho : PIp X op ti) (hs : R2S ti g) (hf : X.fn x = true ∨ X.env.scope.names.lookup x = some .local := by first | exact .inl rfl | exact .inr rfl | assumption) :
    PDS X (.AugAssign (.Name x pos') op e pos) (tAug i te ti) (mAug i g a) := ⟨ps_aug hN hi hx he.pe ho hf, ss_aug he.sem hs⟩
theorem pds_frz {st : Stmt} {t : TS} {m : MS'} (i : Nat) (h : PDS X st t m) : PDS X st t (mFrz i m) := ⟨h.ps, ss_frz h.sem⟩
theorem pds_thenF {st : Stmt} {t : TS} {m : MS'} (i : Nat) (h : PDS X st t m) : PDS X st t (mThenF i m) := ⟨h.ps, ss_thenF h.sem⟩
/-- x.append(e), x.extend(e), x of one's own -/
theorem pds_app {cpos apos : Pos} (i : Nat) (he : PDE X e te a) (hN : X.N[i]? = some x := by rfl) (hv : Vis X.env.scope x := by first | exact Or.inl rfl | exact Or.inr (Or.inl rfl) | exact Or.inr (Or.inr rfl)) (hd : (x == ("__debug__" : Str)) = false := by decide) (hcd : (x == ("__classdict__" : Str)) = false := by decide)
    (hbase : attributeBase (.Name x pos') "append" X.env (eval (.Name x pos') X.env) = eval (.Name x pos') X.env := by rfl)
    (hfew : ((backTo cpos (starEach [e] X.env)).all (fun x => !x.1) && (backToKw cpos (keywordEach [] X.env)).all (fun x => x.1.isSome)
      && decide ([e].length + ([] : List Keyword).length + (if ([] : List Keyword).isEmpty then 0 else 1) < 30)) = true := by rfl)
    (hline : (apos.endLine == cpos.line) = true := by rfl) (hs : starEach [e] X.env = (false, eval e X.env) :: starEach [] X.env := by rfl) (hplain : (backTo cpos (starEach [] X.env)).any (·.1) = false := by rfl)
    (hsw : swapsWith (.Call (.Attribute (.Name x pos') "append" apos) [e] [] cpos) none pos.line X.env = pure false := by rfl) :
    PDS X (.Expr (.Call (.Attribute (.Name x pos') "append" apos) [e] [] cpos) pos) (tDrop (tBM X.K "list" rAppend (tVar i) (tCons te tNil))) (mApp i a) :=
  ⟨ps_expr (pe_bm PySem.F.plainAttrs_list PySem.F.slot_list_append PySem.F.type_list_append mt_append (pe_var hN hv hd hcd) (pa_cons he.pe pa_nil hs) hbase hfew hline hs hplain) hsw, ss_app he.sem⟩
theorem pds_ext {cpos apos : Pos} (i : Nat) (he : PDE X e te a) (hN : X.N[i]? = some x := by rfl) (hv : Vis X.env.scope x := by first | exact Or.inl rfl | exact Or.inr (Or.inl rfl) | exact Or.inr (Or.inr rfl)) (hd : (x == ("__debug__" : Str)) = false := by decide) (hcd : (x == ("__classdict__" : Str)) = false := by decide)
    (hbase : attributeBase (.Name x pos') "extend" X.env (eval (.Name x pos') X.env) = eval (.Name x pos') X.env := by rfl)
    (hfew : ((backTo cpos (starEach [e] X.env)).all (fun x => !x.1) && (backToKw cpos (keywordEach [] X.env)).all (fun x => x.1.isSome)
      && decide ([e].length + ([] : List Keyword).length + (if ([] : List Keyword).isEmpty then 0 else 1) < 30)) = true := by rfl)
    (hline : (apos.endLine == cpos.line) = true := by rfl) (hs : starEach [e] X.env = (false, eval e X.env) :: starEach [] X.env := by rfl) (hplain : (backTo cpos (starEach [] X.env)).any (·.1) = false := by rfl)
    (hsw : swapsWith (.Call (.Attribute (.Name x pos') "extend" apos) [e] [] cpos) none pos.line X.env = pure false := by rfl) :
    PDS X (.Expr (.Call (.Attribute (.Name x pos') "extend" apos) [e] [] cpos) pos) (tDrop (tBM X.K "list" rExtend (tVar i) (tCons te tNil))) (mExt i a) :=
  ⟨ps_expr (pe_bm PySem.F.plainAttrs_list PySem.F.slot_list_extend PySem.F.type_list_extend mt_extend (pe_var hN hv hd hcd) (pa_cons he.pe pa_nil hs) hbase hfew hline hs hplain) hsw, ss_ext he.sem⟩
theorem pds_putI {k : Expr} {tk : TE} {mk : M} {tpos : Pos} (i : Nat) (he : PDE X e te a) (hk : PDE X k tk mk) (hN : X.N[i]? = some x := by rfl) (hv : Vis X.env.scope x := by first | exact Or.inl rfl | exact Or.inr (Or.inl rfl) | exact Or.inr (Or.inr rfl)) (hd : (x == ("__debug__" : Str)) = false := by decide) (hcd : (x == ("__classdict__" : Str)) = false := by decide)
    (ha : ∀ v, assign (.Subscript (.Name x pos') k tpos) X.env v = (do
      let ov ← holding [v] (eval (.Name x pos') X.env)
      let iv ← holding [v, ov] (eval k X.env)
      standAt tpos
      holding [v, ov, iv] (setItem ov iv v)
      release [v, ov, iv] []) := by intro _; rfl)
    (hs : swapsWithSole [(.Subscript (.Name x pos') k tpos : Expr)] e pos.line X.env = pure false := by rfl) (hw : swappedStores [(.Subscript (.Name x pos') k tpos : Expr)] e X.env = pure none := by rfl)
    (h1 : (assignEach [(.Subscript (.Name x pos') k tpos : Expr)] X.env).map (·.2) = [assign (.Subscript (.Name x pos') k tpos) X.env] := by rfl) :
    PDS X (.Assign [.Subscript (.Name x pos') k tpos] e pos) (tAsg te (gSub (tVar i) tk rSetL)) (mPutI i mk a) := ⟨ps_asg he.pe (pg_sub (pe_var hN hv hd hcd) hk.pe set_list ha) hs hw h1, ss_putI he.sem hk.sem⟩
theorem pds_strP {j : Int} {kk} {tpos p2 : Pos} (i : Nat) (he : PDE X e te a) (hN : X.N[i]? = some x := by rfl) (hv : Vis X.env.scope x := by first | exact Or.inl rfl | exact Or.inr (Or.inl rfl) | exact Or.inr (Or.inr rfl)) (hd : (x == ("__debug__" : Str)) = false := by decide) (hcd : (x == ("__classdict__" : Str)) = false := by decide)
    (ha : ∀ v, assign (.Subscript (.Name x pos') (.Constant (.int j) kk p2) tpos) X.env v = (do
      let ov ← holding [v] (eval (.Name x pos') X.env)
      let iv ← holding [v, ov] (eval (.Constant (.int j) kk p2) X.env)
      standAt tpos
      holding [v, ov, iv] (setItem ov iv v)
      release [v, ov, iv] []) := by intro _; rfl)
    (hs : swapsWithSole [(.Subscript (.Name x pos') (.Constant (.int j) kk p2) tpos : Expr)] e pos.line X.env = pure false := by rfl) (hw : swappedStores [(.Subscript (.Name x pos') (.Constant (.int j) kk p2) tpos : Expr)] e X.env = pure none := by rfl)
    (h1 : (assignEach [(.Subscript (.Name x pos') (.Constant (.int j) kk p2) tpos : Expr)] X.env).map (·.2) = [assign (.Subscript (.Name x pos') (.Constant (.int j) kk p2) tpos) X.env] := by rfl) :
    PDS X (.Assign [.Subscript (.Name x pos') (.Constant (.int j) kk p2) tpos] e pos) (tAsg te (gSub (tVar i) (tC (.int j)) rSetL)) (mStrP i j a) := ⟨ps_asg he.pe (pg_sub (pe_var hN hv hd hcd) pe_int set_list ha) hs hw h1, ss_strP he.sem⟩
/-- name = [..] on one line, the name a local -/
theorem pds_setLc {i : Nat} {elt tg iter : Expr} {ifs : List Expr} {scope : Scope} {own : List (Str × Nat)} {wi : TI} {g : TG} {tt : TT} {mi : ML} {ix : List Nat} {b : MG} {c : MT} {spos : Pos} (hc : X.calm = true) (hN : X.N.Nodup) (hy : X.N[i]? = some x) (hyl : X.env.scope.names.lookup x = some .local)
    (hsw : swapsWith (.ListComp elt [⟨tg, iter, ifs, 0⟩] scope pos) (some (.Name x pos')) spos.line X.env = pure true) (ok : BlkOk X.N X.env.scope scope own) (hi : PDI X tg iter wi mi)
    (hg : ∀ (s : Shared) (H : Hp) (C : Addr) (cl : List (Str × Addr)) (fp : List Addr), PDG (X.blk s H scope (compEnvC scope cl C X.env) fp) tg g ix b) (ht : ∀ (s : Shared) (H : Hp) (C : Addr) (cl : List (Str × Addr)) (fp : List Addr), PDTs (X.blk s H scope (compEnvC scope cl C X.env) fp) ifs tt c)
    (he : ∀ (s : Shared) (H : Hp) (C : Addr) (cl : List (Str × Addr)) (fp : List Addr), PDE (X.blk s H scope (compEnvC scope cl C X.env) fp) elt te a) (hix : (ix.all fun i => decide (i ∈ own.map (·.2))) = true := by decide) (hs : ∀ x, foldedSetIterable iter X.env x = pure x := by intro _; rfl) :
    PDS X (.Assign [.Name x pos'] (.ListComp elt [⟨tg, iter, ifs, 0⟩] scope pos) spos) (tAsg (tLc wi g tt te (own.map (·.2))) (gName i)) (mSetN i (mLc mi b c a (own.map (·.2)))) :=
  ⟨ps_setLc hc hN hy hyl hsw hi.pi ok (fun s H C cl fp => (hg s H C cl fp).pg) (fun s H C cl fp => (ht s H C cl fp).pt) (fun s H C cl fp => (he s H C cl fp).pe) hs,
   ss_setN (sn_lc hi.sem (hg X.s_0 X.H_0 0 [] []).sem (ht X.s_0 X.H_0 0 [] []).sem (he X.s_0 X.H_0 0 [] []).sem fun i hi => of_decide_eq_true (List.all_eq_true.mp hix i hi))⟩
end
/-! ### a def -/
def initE (N : List Str) (ds : List Dat) : DEnv := ds.map .fz ++ List.replicate (N.length - ds.length) .no
def outOf : Option (Fl × Sm) → Option (Dat × Sm)
  | some (.rt d, S) => some (d, S)
  | some (.nx _, S) => some (.non, S)
  | _ => none
def runM (N : List Str) (n : Nat) (m : MS') : Phi := fun ds S => if ds.length = n then outOf (m (initE N ds) S) else none
theorem start_inv {O : Addr → Prop} {P : Fix} {H : Hp} {S : Sm} {N : List Str} {vs : List V} {ds : List Dat} (I : HI O P H S) (r : RepL O P.ps H vs ds) : SInv ⟨P, O, H⟩ (L2.start N vs) H (initE N ds) S := by
  have noOw : ∀ (i : Nat) d, (initE N ds)[i]? = some (.ow d) → False := fun i d h => by
    unfold initE at h
    by_cases hi : i < ds.length
    · rw [List.getElem?_append_left (by simpa using hi), List.getElem?_map] at h
      cases q : ds[i]? with
      | none => rw [q] at h; cases h
      | some x => rw [q] at h; cases h
    · rw [List.getElem?_append_right (by simpa using hi), List.getElem?_replicate] at h
      split at h <;> cases h
  have eO : ∀ a, ownS O (L2.start N vs) (initE N ds) a ↔ O a := fun a => ⟨fun z => z.elim id fun ⟨i, d, h, _⟩ => (noOw i d h).elim, .inl⟩
  have t : Tr O H (ownS O (L2.start N vs) (initE N ds)) H := .of fun a u na e => ⟨fun z => na ((eO a).mp z), e⟩
  refine ⟨⟨.inl I.ops, fun z => I.nq ((eO _).mp z), fun a z => I.dom a ((eO a).mp z), I.sm, ?_, fun i d h => ?_, fun i d h => (noOw i d h).elim⟩, .refl, fun i d p h => (noOw i d h).elim, fun i j d e p h => (noOw i d h).elim, I.dom, I.ops⟩
  · unfold L2.start initE
    rw [List.length_append, List.length_map, List.length_replicate, List.length_append, List.length_map, List.length_replicate, r.len]
  · unfold initE at h
    by_cases hi : i < ds.length
    · rw [List.getElem?_append_left (by simpa using hi), List.getElem?_map] at h
      cases q : ds[i]? with
      | none => rw [q] at h; cases h
      | some x =>
        rw [q] at h
        cases h
        obtain ⟨v, h1, h2⟩ := r.get q
        refine ⟨v, ?_, h2.tr t⟩
        unfold L2.start
        rw [List.getElem?_append_left (by rw [List.length_map, r.len]; exact hi), List.getElem?_map, h1]
        rfl
    · rw [List.getElem?_append_right (by simpa using hi), List.getElem?_replicate] at h
      split at h <;> cases h
/-- THE RULE for a def -/
theorem fn_good {P : Program} {w : World} {K : PySem.W.Frag} {mg : Str → Option Value} {base : Heap} {x qual : Str} {st : Stmt} {f : Addr} {fd : FuncData} {N ps : List Str} {k : Nat} {m : MS'} (F : Fun K x qual st f fd) (S : FnScope N ps (defScope st))
    (hb : ∀ (cdv : Value) (A : Around) (outer : List Env) (s : Shared) (H : Hp) (E : XK), Room k (A.deeper (envOfC qual (defScope st) s.heap.objs.size f cdv)) → ∃ t, PDSs (cxOf CX0 P w K mg base N qual (defScope st) f cdv A outer s H E).nox (defBody st) t m) :
    FnOk P w K mg base CX0 (k + 1) f fd ps (Good (runM N ps.length m)) := by
  refine F.ok S (fun vs H Q E h => ?_) fun cdv A outer s H vs Q E hr h => ?_
  · obtain ⟨O, P', ds, S', r, _, rl, e, _⟩ := h
    unfold runM at e
    split at e
    · rw [rl.len]; assumption
    · cases e
  · obtain ⟨O, P', ds, S', r, I, rl, e, q⟩ := h
    obtain ⟨t, ht⟩ := hb cdv A outer s H E hr
    refine ⟨t, ht.ps, ?_⟩
    unfold runM at e
    split at e
    · cases em : m (initE N ds) S' with
      | none => rw [em] at e; cases e
      | some out =>
        rw [em] at e
        refine ht.sem ⟨P', O, H⟩ _ H _ S' out _ (start_inv I rl) em ?_
        obtain ⟨fl, S2⟩ := out
        cases fl with
        | nx env => cases e; exact fun σ' H' J _ => q .non H' J.frm J.ei.sm .non
        | rt d => cases e; exact fun v H' f s rv => q v H' f s rv
        | bk env => cases e
        | ct env => cases e
    · cases e
end PD

namespace PD
open PySem PySem.Spec PyProof.Rows L2
/-! ### tuples joined; lists joined, repeated -/
def gCatT : Dat → Dat → Option Dat
  | .tup xs, .tup ys => if xs.length + ys.length ≤ 100000 then some (.tup (xs ++ ys)) else none
  | _, _ => none
theorem r2_catT {K : PySem.W.Frag} : R2S (rCatF K) gCatT := by
  intro O P H S x y d e z Q I rx ry eg q
  unfold gCatT at eg
  split at eg
  · split at eg
    · rename_i h
      cases eg
      obtain ⟨a, xs, rfl, h1, z1, l1, n1⟩ := rx.tup
      obtain ⟨b, ys, rfl, h2, z2, l2, n2⟩ := ry.tup
      have hz : xs.length + ys.length ≤ sizeLine := by rw [l1.len, l2.len]; exact Nat.le_trans h (by decide)
      refine ⟨a, b, xs, ys, rfl, rfl, h1.sq, h2.sq, hz, fun e => ?_, fun _ e => ?_, fun _ _ p ob n d => q _ _ (.new n) (I.sm.new n) (.tup (.new d) (not_own I n) (by rw [List.length_append]; exact hz) (repL_new (l1.app l2) n))⟩
      · subst e
        cases l1
        exact q _ H .refl I.sm (.tup h2 n2 z2 l2)
      · subst e
        cases l2
        rw [List.append_nil] at q
        exact q _ H .refl I.sm (.tup h1 n1 z1 l1)
    · cases eg
  · cases eg
abbrev gAdd := gOr (gI0 fun i j => .int (i + j)) (gOr gAddS gCatT)
def rAddA (K : PySem.W.Frag) : R2 := rOr (rI0 fun i j => .int (i + j)) (rOr (fun x y H Q => ∃ i j, x = .str i ∧ y = .str j ∧ i.length + j.length ≤ sizeLine ∧ Q (.str (i ++ j)) H) (rCatF K))
section
variable {X : Cx} {pos : Pos} {a b : Expr} {ta tb : TE} {ma mb : M}
theorem po_add : PDO X (binaryOp .Add) (rAddA X.K) gAdd := ⟨OpR.or op_add (OpR.or op_add_str op_catF), (r2_I0 fun _ _ _ _ _ => .int _).or (r2_addS.or r2_catT)⟩
theorem pn_cat (ha : PDB X a ta ma) (hb : PDB X b tb mb) : PDN X (.BinOp a .Add b pos) (tOp rCat ta tb) (m2 gCat ma mb) := ⟨pe_op op_cat ha.pe hb.pe, sn_op r2_cat ha.sem hb.sem⟩
def repD (ds : List Dat) (n : Nat) : List Dat := (List.replicate n ds).flatten
def gRep : Dat → Dat → Option Dat
  | .lst [d], .int k => if decide (k ≤ 100000) = true then some (.lst (List.replicate k.toNat d)) else none
  | _, _ => none
theorem pd_neg (ha : PDB X a ta ma) : PDE X (.UnaryOp .USub a pos) (tUn (rU fun i => .int (-i)) ta) (fun env S => (ma env S).bind fun r => match r.1 with
  | .int i => some (.int (-i), r.2)
  | _ => none) := ⟨pe_un un_neg ha.pe, fun O P σ H env S r Q I e q => by
  have e : (ma env S).bind _ = some r := e
  cases ea : ma env S with
  | none => rw [ea] at e; cases e
  | some x =>
    rw [ea] at e
    simp only [Option.bind_some] at e
    split at e
    · rename_i i hi
      cases e
      refine ha.sem O P σ H env S x _ I ea fun v H' f s rv => ?_
      rw [hi] at rv
      exact ⟨i, rv.int, q _ H' f s (.int _)⟩
    · cases e⟩
end
def mNeg (ma : M) : M := fun env S => (ma env S).bind fun r => match r.1 with
  | .int i => some (.int (-i), r.2)
  | _ => none
/-! ### sorted texts -/
def leS (x y : Str) : Bool := decide (x.cps.toList ≤ y.cps.toList)
def sortS (xs : List Str) : List Str := xs.mergeSort leS
/-! ### the module's constants -/
theorem pd_gInt {X : Cx} {x : Str} {i : Int} {pos : Pos} (h : ∃ t, X.mg x = some (.int i t)) (hg : Gl X x := by rfl) (hd : (x == ("__debug__" : Str)) = false := by decide) : PDE X (.Name x pos) (tC (.int i)) (mC (.int i)) := by
  obtain ⟨t, h⟩ := h
  exact ⟨pe_glob hg h ⟨t, rfl⟩ hd, se_c fun _ _ _ => .int i⟩
theorem pd_gStr {X : Cx} {x z : Str} {pos : Pos} (h : ∃ t, X.mg x = some (.str z t)) (hz : decide (z.length ≤ 1000) = true := by decide +kernel) (hg : Gl X x := by rfl) (hd : (x == ("__debug__" : Str)) = false := by decide) : PDE X (.Name x pos) (tC (.str z)) (mC (.str z)) := by
  obtain ⟨t, h⟩ := h
  exact ⟨pe_glob hg h ⟨t, rfl⟩ hd, se_c fun _ _ _ => .str z (Nat.le_trans (of_decide_eq_true hz) (by decide))⟩
/-! ### a def that calls itself, to a depth -/
theorem fn_zero {P : Program} {w : World} {K : PySem.W.Frag} {mg : Str → Option Value} {base : Heap} {k : Nat} {f : Addr} {fd : FuncData} {ps : List Str} : FnOk P w K mg base CX0 k f fd ps (Good fun _ _ => none) :=
  ⟨(fun vs H Q E h => by obtain ⟨_, _, _, _, _, _, _, e, _⟩ := h; cases e), (fun A outer s H args us vs Q E _ _ _ _ h => by obtain ⟨_, _, _, _, _, _, _, e, _⟩ := h; cases e)⟩
/-! ### the stream's making, the law -/
def spStream (K : PySem.W.Frag) : Sp := fun vs H Q _ => ∃ (a : Addr) (ns : List Int), vs = [.ref a] ∧ SqL K H a (ns.map V.int) ∧ ∀ p q H', Same H H' → H p = none → H q = none → p ≠ q → H' p = some (.lst [.ref q, .int 0, .int 0]) → H' q = some (.lst (ns.map V.int)) → Q (.ref p) H'
theorem same_upd {H : Hp} {p : Addr} {o : HO} (h : H p = none) : Same H (upd H p o) := fun b x e => by
  rw [upd_ne (ne_of_none e h)]
  exact e
theorem ok_stream {P : Program} {w : World} {K : PySem.W.Frag} {mg : Str → Option Value} {base : Heap} {st : Stmt} {f : Addr} {fd : FuncData} {p1 p2 p3 p4 p5 p6 p7 : Pos} {j1 j2} (F : Fun K "_law_stream" "_law_stream" st f fd) (S : FnScope ["script"] ["script"] (defScope st)) (ml : mg "list" = none)
    (hb : defBody st = [.Return (some (.List [.Call (.Name "list" p1) [.Name "script" p2] [] p3, .Constant (.int 0) j1 p4, .Constant (.int 0) j2 p5] p6)) p7])
    (hk : (defScope st).names.lookup ("list" : Str) = some .globalImplicit) (hs : (defScope st).names.lookup ("script" : Str) = some .local) : FnOk P w K mg base CX0 1 f fd ["script"] (spStream K) := by
  refine F.ok S (fun vs H Q E h => ?_) (fun cdv A outer s H vs Q E hr h => ?_)
  · obtain ⟨a, ns, rfl, _⟩ := h
    rfl
  · obtain ⟨a, ns, rfl, hS, q⟩ := h
    rw [hb]
    refine ⟨_, pss_one (ps_ret (pe_lst (pa_cons (pe_callTy call_list_of hk ml (by decide +kernel) (pa_cons (pe_var (i := 0) rfl (.inl hs)) pa_nil)) (pa_cons pe_int (pa_cons pe_int pa_nil))))), ?_⟩
    refine ⟨.ref a, rfl, a, _, rfl, .inl hS, fun l nl => ⟨by show 3 ≤ sizeLine; decide, fun p np => ?_⟩⟩
    have hl : upd H l (.lst (ns.map V.int)) l = some (.lst (ns.map V.int)) := upd_same
    have hlp : l ≠ p := ne_of_none hl np
    have np0 : H p = none := by rw [upd_ne hlp.symm] at np; exact np
    exact q p l _ ((same_upd nl).trans (same_upd np)) np0 nl hlp.symm upd_same ((upd_ne hlp).trans hl)
def spLaw (K : PySem.W.Frag) : Sp := fun vs H Q _ => ∃ (a : Addr) (ns : List Int), vs = [.ref a] ∧ SqL K H a (ns.map V.int) ∧ ns.length ≤ 63 ∧ ∀ H', Q (.bl true) H'
def lawE (N : List Str) : DEnv := .no :: .fz .strm :: List.replicate (N.length - 2) .no
theorem law_good {P : Program} {w : World} {K : PySem.W.Frag} {mg : Str → Option Value} {base : Heap} {st : Stmt} {f fS : Addr} {fd fdS : FuncData} {N : List Str} {k : Nat} {m : MS'} {s1 : Stmt} {rest : List Stmt} {p1 p2 p3 p4 p5 : Pos} (F : Fun K "law" "law" st f fd) (S : FnScope N ["script"] (defScope st))
    (GS : FnOk P w K mg base CX0 1 fS fdS ["script"] (spStream K)) (kS : PySem.W.keepIn K (.ref fS) = true) (bS : Binds K fdS ["script"] []) (gS : mg "_law_stream" = some (.ref fS)) (hk : 1 ≤ k)
    (hb : defBody st = s1 :: rest) (h1 : s1 = .Assign [.Name "stream" p1] (.Call (.Name "_law_stream" p2) [.Name "script" p3] [] p4) p5) (hg : (defScope st).names.lookup ("_law_stream" : Str) = some .globalImplicit)
    (hN0 : N[0]? = some ("script" : Str)) (hN1 : N[1]? = some ("stream" : Str)) (hv : Vis (defScope st) "script") (hl : Loc (defScope st) "stream")
    (hm : ∀ ns : List Int, ns.length ≤ 63 → ∃ S', m (lawE N) ⟨ns, 0, 0⟩ = some (.rt (.bl true), S'))
    (hrest : ∀ (cdv : Value) (A : Around) (outer : List Env) (s : Shared) (H : Hp) (E : XK), Room k (A.deeper (envOfC "law" (defScope st) s.heap.objs.size f cdv)) → ∃ t, PDSs (cxOf CX0 P w K mg base N "law" (defScope st) f cdv A outer s H E).nox rest t m) :
    FnOk P w K mg base CX0 (k + 1) f fd ["script"] (spLaw K) := by
  refine F.ok S (fun vs H Q E h => ?_) (fun cdv A outer s H vs Q E hr h => ?_)
  · obtain ⟨a, ns, rfl, _⟩ := h
    rfl
  · obtain ⟨a, ns, rfl, hS, hlen, q⟩ := h
    obtain ⟨t, ht⟩ := hrest cdv A outer s H E hr
    rw [hb, h1]
    have hN2 : 2 ≤ N.length := (List.getElem?_eq_some_iff.mp hN1).1
    refine ⟨_, pss_cons (ps_set (i := 1) S.nd hN1 hl (pe_call GS (hr.mono hk) hg gS kS bS .nil pass0 (pa_cons (pe_var (i := 0) hN0 hv) pa_nil))) ht.ps, ?_⟩
    have h0 : (L2.start N [V.ref a])[0]? = some (some (.ref a)) := rfl
    refine ⟨.ref a, h0, a, ns, rfl, hS, fun p qs H' sm np nq hpq hp hq => ?_⟩
    obtain ⟨S', em⟩ := hm ns hlen
    have hlenσ : ((L2.start N [V.ref a]).set 1 (some (V.ref p))).length = (lawE N).length := by
      rw [List.length_set]
      unfold L2.start lawE
      simp only [List.length_append, List.length_map, List.length_replicate, List.length_cons, List.length_nil]
      omega
    have noOw : ∀ (i : Nat) d, (lawE N)[i]? = some (.ow d) → False := fun i d h => by
      unfold lawE at h
      match i, h with
      | 0, h => cases h
      | 1, h => cases h
      | i + 2, h =>
        rw [List.getElem?_cons_succ, List.getElem?_cons_succ, List.getElem?_replicate] at h
        split at h <;> cases h
    have eO : ∀ (σ : L2.St) b, ownS (fun b => b = p) σ (lawE N) b ↔ b = p := fun σ b => ⟨fun z => z.elim id fun ⟨i, d, h, _⟩ => (noOw i d h).elim, .inl⟩
    refine ht.sem ⟨⟨p, qs⟩, fun b => b = p, H'⟩ _ H' (lawE N) ⟨ns, 0, 0⟩ _ _ ⟨⟨.inl rfl, fun z => hpq ((eO _ _).mp z).symm, fun b z => by rw [(eO _ _).mp z, hp]; simp, ⟨hp, hq⟩, hlenσ, fun i d h => ?_, fun i d h => (noOw i d h).elim⟩, .refl, fun i d p h => (noOw i d h).elim, fun i j d e p h => (noOw i d h).elim, (fun b z => by rw [show b = p from z]; show H' p ≠ none; rw [hp]; simp), rfl⟩ em ?_
    · unfold lawE at h
      match i, h with
      | 0, h => cases h
      | 1, h =>
        cases h
        refine ⟨.ref p, List.getElem?_set_self ?_, .strm⟩
        unfold L2.start
        simp only [List.length_append, List.length_map, List.length_replicate, List.length_cons, List.length_nil]
        omega
      | i + 2, h =>
        rw [List.getElem?_cons_succ, List.getElem?_cons_succ, List.getElem?_replicate] at h
        split at h <;> cases h
    · intro v H2 _ _ rv
      cases rv
      exact q H2
end PD

/-! Sets of texts: set(xs) of a list of texts, sorted of it. -/
namespace PD
open PySem PySem.Spec PyProof.Rows L2
def txt (e : Int × Value) : Str := match e.2 with
  | .str x _ => x
  | _ => Str.empty
def EntS (w : World) (e : Int × Value) : Prop := ∃ x u, e.2 = Value.str x u ∧ e.1 = hashStr w x
structure TabS (w : World) (es : Array (Int × Value)) (t : SetTable) (xs : List Str) : Prop where
  ent : ∀ e ∈ es.toList, EntS w e
  mem : (es.toList.map txt).Perm xs
  nd : xs.Nodup
  few : es.size < scanBound
  fit : t.fits es.size = true
  ris : Ris t.place.toList
  led : w.params.followText "set-order" = true ∨ t.led = true
def SetS (w : World) (h : Heap) (a : Addr) (xs : List Str) : Prop := ∃ o es ep t, (h.get? a = some o ∧ o.ExactSet ∧ o.data = .set es ep t) ∧ TabS w es t xs
section
variable {P : Program} {w : World} {A : Around} {E : Value → Shared → Prop} {s : Shared} {a : Addr} {xs : List Str}
theorem TabS.elems {es : Array (Int × Value)} {t : SetTable} (T : TabS w es t xs) : ElemsOf (strKind P w) es.toList := fun e he => by
  obtain ⟨x, u, e1, e2⟩ := T.ent e he
  refine ⟨⟨x, ?_, e2⟩, ?_⟩
  · rw [e1]; exact strKind_is P w x u
  · rw [e1]; rfl
theorem ent_is {e : Int × Value} (g : EntS w e) (x : Str) : (strKind P w).is x e.2 = true ↔ txt e = x := by
  obtain ⟨y, u, e1, _⟩ := g
  unfold txt
  rw [e1]
  constructor
  · intro h
    obtain ⟨t, ht⟩ := Value.isStrOf_shape (x := x) (v := Value.str y u) h
    cases ht
    rfl
  · intro h
    subst h
    exact strKind_is P w _ u
theorem TabS.has {es : Array (Int × Value)} {t : SetTable} (T : TabS w es t xs) (x : Str) : x ∈ xs ↔ ∃ e ∈ es.toList, (strKind P w).is x e.2 = true := by
  rw [← T.mem.mem_iff, List.mem_map]
  exact ⟨fun ⟨e, he, q⟩ => ⟨e, he, (ent_is (T.ent e he) x).2 q⟩, fun ⟨e, he, q⟩ => ⟨e, he, (ent_is (T.ent e he) x).1 q⟩⟩
/-- the table may be laid out anew -/
theorem TabS.lay {es es' : Array (Int × Value)} {t t' : SetTable} (T : TabS w es t xs) (pm : es'.toList.Perm es.toList) (hf : t'.fits es'.size = true) (hr : Ris t'.place.toList) (hl : t'.led = t.led) : TabS w es' t' xs where
  ent := fun e he => T.ent e (pm.mem_iff.mp he)
  mem := (pm.map txt).trans T.mem
  nd := T.nd
  few := by
    have z : es'.size = es.size := by rw [← Array.length_toList, pm.length_eq, Array.length_toList]
    rw [z]; exact T.few
  fit := hf
  ris := hr
  led := T.led.imp id fun z => hl.trans z
theorem add_end {gv : Bool → Sem Unit} (hgv : ∀ (b : Bool) (s1 : Shared) (Q1 : Unit → Shared → Prop), Q1 () s1 → wpAny (model P w) A (gv b) Q1 E s1)
    {o : Obj} {es es1 : Array (Int × Value)} {ep : Nat} {t t2 : SetTable} (ho : s.heap.get? a = some o) (hx : o.ExactSet) (hd : o.data = .set es ep t) (T : TabS w es1 t2 xs) {wd : Bool} {R : Option Bool → Shared → Prop}
    (hR : ∀ h1, Heap.SameBut a s.heap h1 → SetS w h1 a xs → R (some true) { s with heap := h1 }) :
    wpAny (model P w) A (do
        storeSet a es1 t2
        if (!wd && t2.tooFull) = true then do
            gv (relayAll t2 es1 (SetTable.grown es1.size)).2.2
            storeSet a (relayAll t2 es1 (SetTable.grown es1.size)).1 (relayAll t2 es1 (SetTable.grown es1.size)).2.1
            pure (some true)
          else pure (some true)) R E s := by
  have st1 := store_at (es' := es1) (t' := t2) ho hd
  have but1 := Heap.SameBut.update s.heap a (Obj.putSet es1 t2)
  refine wpAny_bind (wpAny_storeSet_of ho hd ?_ (fits_of_scanBound T.few))
  split
  · have T3 := T.lay (relayAll_perm t2 es1 (SetTable.grown es1.size)) (relayAll_fits t2 es1 (SetTable.grown es1.size)) (relayAll_ris t2 es1 (SetTable.grown es1.size)) (relayAll_led t2 es1 (SetTable.grown es1.size))
    generalize relayAll t2 es1 (SetTable.grown es1.size) = W at T3 ⊢
    refine wpAny_bind (hgv _ _ _ (wpAny_bind (wpAny_storeSet_of st1 rfl ?_ (fits_of_scanBound T3.few))))
    have st2 := store_at (es' := W.1) (t' := W.2.1) st1 rfl
    exact wpAny_pure (hR _ (but1.trans (Heap.SameBut.update _ a _)) ⟨_, _, _, _, ⟨st2, hx, rfl⟩, T3⟩)
  · exact wpAny_pure (hR _ but1 ⟨_, _, _, _, ⟨st1, hx, rfl⟩, T⟩)
def insS (xs : List Str) (x : Str) : List Str := if x ∈ xs then xs else xs ++ [x]
theorem add_text {x : Str} {u : Tok} {Q : Bool → Shared → Prop} (R : SetS w s.heap a xs) (room : xs.length + 1 < scanBound)
    (hQ : ∀ b h1, Heap.SameBut a s.heap h1 → SetS w h1 a (insS xs x) → Q b { s with heap := h1 }) :
    wpAny (model P w) A (setAddHashed a (.str x u) ((strKind P w).hash x)) Q E s := by
  obtain ⟨o, es, ep, t, ⟨ho, hx, hd⟩, T⟩ := R
  have isx : (strKind P w).is x (.str x u) = true := strKind_is P w x u
  have scan : (Value.str x u).scannable = true := rfl
  have els : ElemsOf (strKind P w) es.toList := T.elems
  unfold setAddHashed setAddHashedIn
  refine wpAny_holding ?_
  refine wpAny_bind (wpAny_setState_of ho hd T.fit ?_)
  dsimp only
  rw [byScan_of scan T.few els]
  simp only [↓reduceIte]
  unfold setAddByScan
  refine wpAny_bind (wpAny_bind (wpAny_rule (wpAny_bind (wpAny_setScan_of isx ho hd T.fit els ?_))))
  cases found : List.findIdx? (fun e => (strKind P w).is x e.2) es.toList with
  | some j =>
    dsimp only
    obtain ⟨hj, pj, _⟩ := List.findIdx?_eq_some_iff_getElem.mp found
    have hin : x ∈ xs := (T.has (P := P) x).2 ⟨_, List.getElem_mem hj, pj⟩
    refine wpAny_pure (wpAny_pure (hQ _ s.heap (Heap.SameBut.refl a s.heap) ⟨o, es, ep, t, ⟨ho, hx, hd⟩, ?_⟩))
    unfold insS
    rw [if_pos hin]
    exact T
  | none =>
    dsimp only
    have hout : x ∉ xs := fun z => by
      obtain ⟨e, he, q⟩ := (T.has (P := P) x).1 z
      have c := List.findIdx?_eq_none_iff.mp found e he
      rw [q] at c
      cases c
    have gave : ∀ (b : Bool) {s1 : Shared} {Q1 : Unit → Shared → Prop}, Q1 () s1 → wpAny (model P w) A (match b with | true => rule "set.scan.the-table-gave-way" | false => pure ()) Q1 E s1 :=
      fun b s1 Q1 q => by cases b <;> first | exact wpAny_rule q | exact wpAny_pure q
    have pm0 := layNew_perm t es ((strKind P w).hash x) (.str x u)
    have fit1 := layNew_fits t es ((strKind P w).hash x) (.str x u)
    have ris1 := layNew_ris t es ((strKind P w).hash x) (.str x u) T.ris
    have led1 := layNew_led t es ((strKind P w).hash x) (.str x u)
    generalize layNew t es ((strKind P w).hash x) (.str x u) = W at pm0 fit1 ris1 led1 ⊢
    obtain ⟨es1, t1, wd, gv⟩ := W
    dsimp only at pm0 fit1 ris1 led1 ⊢
    rw [Array.toList_push] at pm0
    have pm : es1.toList.Perm (((strKind P w).hash x, Value.str x u) :: es.toList) := pm0.trans (List.perm_append_singleton _ _)
    have eins : insS xs x = xs ++ [x] := if_neg hout
    have T1 : TabS w es1 t1 (insS xs x) := by
      refine ⟨fun e he => ?_, ?_, ?_, ?_, fit1, ris1, T.led.imp id fun z => led1.trans z⟩
      · rcases List.mem_cons.mp (pm.mem_iff.mp he) with z | z
        · rw [z]; exact ⟨x, u, rfl, rfl⟩
        · exact T.ent e z
      · rw [eins]
        exact (pm.map txt).trans (((T.mem.cons x)).trans (List.perm_append_singleton _ _).symm)
      · rw [eins]
        exact List.nodup_append.mpr ⟨T.nd, (by simp), fun y hy z hz => by
          rw [List.mem_singleton.mp hz]
          exact fun q => hout (q ▸ hy)⟩
      · have z : es1.size = xs.length + 1 := by
          have l1 := pm.length_eq
          have l2 := T.mem.length_eq
          rw [List.length_map] at l2
          rw [← Array.length_toList, l1, List.length_cons, l2]
        rw [z]; exact room
    refine wpAny_bind (gave _ ?_)
    split
    · refine wpAny_bind ?_
      rw [hashByValue_scannable 8 scan]
      refine wpAny_pure ?_
      refine add_end ?_ ho hx hd (xs := insS xs x) ⟨T1.ent, T1.mem, T1.nd, T1.few, ?_, ?_, ?_⟩ ?_
      · intro b s1 Q1 q; cases b <;> first | exact wpAny_rule q | exact wpAny_pure q
      · first | (split <;> first | exact T1.fit | exact SetTable.fits_plain_off T1.fit) | exact T1.fit
      · first | (split <;> exact T1.ris) | exact T1.ris
      · first | (split <;> exact T1.led) | exact T1.led
      · intro h1 sb r; dsimp only; exact wpAny_pure (hQ _ h1 sb r)
    · refine wpAny_bind (wpAny_pure ?_)
      simp only [↓reduceIte]
      refine add_end ?_ ho hx hd T1 ?_
      · intro b s1 Q1 q; cases b <;> first | exact wpAny_rule q | exact wpAny_pure q
      · intro h1 sb r; dsimp only; exact wpAny_pure (hQ _ h1 sb r)
end
/-- the texts met so far, each once -/
def metS (xs : List Str) : List Str := xs.foldl insS []
theorem insS_len (xs : List Str) (x : Str) : (insS xs x).length ≤ xs.length + 1 := by
  unfold insS
  split
  · omega
  · rw [List.length_append]; exact Nat.le_refl _
theorem metS_take (xs : List Str) (i : Nat) (x : Str) (h : xs[i]? = some x) : metS (xs.take (i + 1)) = insS (metS (xs.take i)) x := by
  unfold metS
  rw [List.take_add_one, h, List.foldl_append]
  rfl
theorem metS_len (xs : List Str) : ∀ i, (metS (xs.take i)).length ≤ i
  | 0 => by unfold metS; simp
  | i + 1 => by
    cases h : xs[i]? with
    | none =>
      rw [List.take_add_one, h]
      have := metS_len xs i
      simp only [Option.toList_none, List.append_nil]
      omega
    | some x =>
      rw [metS_take xs i x h]
      exact Nat.le_trans (insS_len _ _) (Nat.succ_le_succ (metS_len xs i))
section
variable {prog : Program} {w : World} {A : Around} {R : Result → Shared → Prop} {it : Addr} {fp wr : List Addr} {G : Array GenState → Array GenState → Prop} {n : Nat} {Pv : Nat → Value → Prop} {St : Nat → Shared → Prop}
theorem SetS.at {h h1 : Heap} {a : Addr} {ys : List Str} (r : SetS w h a ys) (k : ∀ o, h.get? a = some o → h1.get? a = some o) : SetS w h1 a ys := by
  obtain ⟨o, es, ep, t, ⟨ho, q⟩, T⟩ := r
  exact ⟨o, es, ep, t, ⟨k o ho, q⟩, T⟩
/-- set.update's loop over texts -/
theorem loop_texts (W : WalksS prog w A.in1 it fp wr G n Pv St) (b0 : Addr) (hb0 : b0 ∉ fp) (xs : List Str) (hv : ∀ i v, Pv i v → ∃ x t, xs[i]? = some x ∧ v = .str x t) (room : n + 1 < scanBound) :
    ∀ (m i : Nat) (s : Shared), n - i = m → i ≤ n → St i s → SetS w s.heap b0 (metS (xs.take i)) →
      (∀ s1, Moved (b0 :: wr) G s s1 → SetS w s1.heap b0 (metS (xs.take n)) → R (.ok (.ret .none)) s1) →
      codeAny (model prog w) A (.builtin "set.update.loop" ⟨[.ref b0, .ref it], []⟩) R s := by
  have nw : b0 ∉ wr := fun z => hb0 (W.sub _ z)
  have up : ∀ c ∈ wr, c ∈ b0 :: wr := fun c hc => List.mem_cons_of_mem _ hc
  intro m
  induction m with
  | zero =>
    intro i s hm hi st hS hR
    obtain rfl : i = n := by omega
    refine codeAny_builtin PyProof.Rows.F.entry_set_update_loop ?_
    rw [Around.under_plainId PyProof.Rows.F.plain_set_update_loop _]
    show wpAny _ A.in1 (pyNext (.ref it) >>= _) _ _ s
    refine wpAny_bind (W.done s _ _ st fun s1 mv => ?_)
    show wpAny _ A.in1 (ret Value.none) _ _ s1
    exact wpAny_pure (hR s1 (mv.mono up) (hS.at fun o e => mv.heap b0 o nw e))
  | succ m ih =>
    intro i s hm hi st hS hR
    have lt : i < n := by omega
    refine codeAny_builtin PyProof.Rows.F.entry_set_update_loop ?_
    rw [Around.under_plainId PyProof.Rows.F.plain_set_update_loop _]
    show wpAny _ A.in1 (pyNext (.ref it) >>= _) _ _ s
    refine wpAny_bind (W.item i s _ _ lt st fun v s1 pv st1 mv => ?_)
    obtain ⟨x, t, hx, rfl⟩ := hv i v pv
    have hS1 : SetS w s1.heap b0 (metS (xs.take i)) := hS.at fun o e => mv.heap b0 o nw e
    show wpAny _ A.in1 (holding [Value.str x t] (setAdd b0 (.str x t)) >>= _) _ _ s1
    refine wpAny_bind (wpAny_holding ?_)
    unfold setAdd
    refine wpAny_holding (wpAny_bind ((strKind prog w).pyHash (k := x) (strKind_is _ _ _ _) ?_))
    have hl := metS_len xs i
    refine add_text (s := { s1 with toks := s1.toks + 1 }) hS1 (by omega) fun ok h1 sb hS2 => ?_
    rw [← metS_take xs i x hx] at hS2
    have off : ∀ c, c ≠ b0 → h1.get? c = s1.heap.get? c := fun c hc => sb.2 c hc
    refine wpAny_pure ⟨plainId_quiet PyProof.Rows.F.plain_set_update_loop _, ih (i + 1) _ (by omega) lt (W.frame _ s1 _ _ st1 (Nat.le_succ _) fun c hc o e => ?_) hS2 fun s2 mv2 hS3 => ?_⟩
    · exact (off c fun z => hb0 (z ▸ hc)).trans e
    · refine hR s2 (Moved.trans W.gtrans ((mv.mono up).then_heap (Nat.le_succ _) fun c o hc e => ?_) mv2) hS3
      exact (off c fun z => hc (by rw [z]; exact List.mem_cons_self)).trans e
end
theorem strsAre_at : ∀ {us : List Value} {xs : List Str}, StrsAre us xs → ∀ (i : Nat) (v : Value), us[i]? = some v → ∃ x t, xs[i]? = some x ∧ v = .str x t
  | _, _, .nil, _, _, h => by simp at h
  | _, _, .cons x t _, 0, v, h => ⟨x, t, rfl, by simpa using h.symm⟩
  | _, _, .cons _ _ r, i + 1, v, h => by
    obtain ⟨x, t, h1, h2⟩ := strsAre_at r i v (by simpa using h)
    exact ⟨x, t, by simpa using h1, h2⟩
/-- the new set that set.__new__ makes -/
def newSetO (w : World) : Obj := { cls := .type "set", dict := none, data := .set #[] 0 (.fresh 0 0 (!w.params.followText "set-order")) }
theorem newSetS (h : Heap) (w : World) : SetS w (h.push (newSetO w)) h.objs.size [] :=
  ⟨newSetO w, #[], 0, _, ⟨Heap.get?_push_size _ rfl, ⟨rfl, rfl, rfl⟩, rfl⟩, fun e he => (by simp at he), (by simp), List.nodup_nil, (by decide), (by rfl), List.Pairwise.nil, by
    show _ ∨ (!w.params.followText "set-order") = true
    cases w.params.followText "set-order" <;> simp⟩
section
variable {P : Program} {w : World} {A : Around} {E : Value → Shared → Prop} {s : Shared}
theorem code_set1 (x : Value) {Q1 : Value → Shared → Prop} (h : Q1 (.ref s.heap.objs.size) { s with heap := s.heap.push (newSetO w) }) :
    codeAny (model P w) A (.call (.builtin "set.__new__") ⟨[.type "set", x], []⟩) (wants Q1 E) s := by
  refine codeAny_of_tree (show wpAny _ A.in1 (do checkBuiltinCall "set.__new__" ⟨[.type "set", x], []⟩; again (.builtin "set.__new__" ⟨[.type "set", x], []⟩)) _ _ s from ?_)
  refine wpAny_bind (wpAny_of_eq (PySem.F.newCall_set_1 x) ?_)
  refine wpAny_pure ⟨plainId_quiet PySem.F.plain_set_new _, codeAny_builtin PySem.F.entry_set_new ?_⟩
  rw [Around.under_plainId PySem.F.plain_set_new _]
  have own := sub_set_self
  unfold Builtin.«set.__new__» Builtin.Frozenset.newClass
  obtain ⟨hp, gg, dd, kk, ww⟩ := s
  dsimp only
  wp_walk
  refine wpAny_askSetting ?_
  refine wpAny_pure ?_
  dsimp only
  simp only [newObj]
  exact wpAny_bind (wpAny_alloc (wpAny_pure (wpAny_pure h)))
set_option maxHeartbeats 4000000 in
theorem call_set1 {l : Addr} {its : Array Value} {xs : List Str} {Q : Value → Shared → Prop} (hh : A.handled = none) (hl : s.heap.IsList l its) (hi : StrsAre its.toList xs) (few : its.size + 1 < scanBound)
    (h : ∀ (h1 : Heap) (tk : Nat), SetS w h1 s.heap.objs.size (metS (xs.take its.size)) → (∀ b o, s.heap.get? b = some o → h1.get? b = some o) → Q (.ref s.heap.objs.size) { s with heap := h1, toks := tk }) :
    wpAny (model P w) A (call (.type "set") [.ref l]) Q E s := by
  have fm := PySem.F.called_set.mro
  rcases fm with ⟨c0, tl0, hm0⟩
  have f1 := PySem.F.called_set.made
  have f2 := PySem.F.called_set.sub
  have f3 := PySem.F.called_set.notType
  have f4 := PySem.F.called_set.canCreate
  have f5 := PySem.F.typeCall_set_1 (.ref l)
  refine wpAny_call (codeAny_of_tree (show wpAny _ _ (callAny (.type "set") _) _ _ _ from ?_))
  refine wpAny_pure ⟨Code.quiet_builtin _ (by decide +kernel), ?_⟩
  refine codeAny_builtin PySem.F.entry_type_call ?_
  rw [Around.under_plain (weight_type_call_type "set" [.ref l] []) rfl]
  repeat (any_goals (first | assumption | wp_step))
  refine codeAny_mono (code_set1 (w := w) (.ref l) (E := E) (Q1 := fun ob s1 => ob = .ref s.heap.objs.size ∧ s1 = { s with heap := s.heap.push (newSetO w) }) ⟨rfl, rfl⟩) fun r s1 hr => ?_
  cases r with
  | error e => exact hr
  | ok fl =>
    cases fl with
    | ret ob =>
      obtain ⟨rfl, rfl⟩ := hr
      have at0 : (s.heap.push (newSetO w)).get? s.heap.objs.size = some (newSetO w) := Heap.get?_push_size _ rfl
      have ty0 : Shared.TypeIs { s with heap := s.heap.push (newSetO w) } (.ref s.heap.objs.size) "set" := ⟨_, at0, rfl⟩
      have g1 := PySem.F.called_set.init.lookup
      have g2 := PySem.F.called_set.init.bind (.ref s.heap.objs.size)
      repeat (any_goals (first | assumption | wp_step))
      refine codeAny_mono (codeAny_call_builtin (R := wants (fun r s2 => r = .none ∧ ∃ h1 tk, s2 = { s with heap := h1, toks := tk } ∧ SetS w h1 s.heap.objs.size (metS (xs.take its.size)) ∧ ∀ b o, s.heap.get? b = some o → h1.get? b = some o) E)
        PySem.F.called_set.init.plain PySem.F.entry_set_init (check_set_init_1 ty0 ?_)) fun r2 s2 hr2 => ?_
      · have hl' := hl
        obtain ⟨ol, hol, hcl, nl, hdl⟩ := hl'
        have ll : l < s.heap.objs.size := Heap.lt_size hol
        obtain ⟨oc, od, odt, osl⟩ := ol
        simp only at hcl hdl
        subst hcl hdl
        have hol1 : (s.heap.push (newSetO w)).get? l = some { cls := .type "list", dict := od, data := .seq its nl, slots := osl } := Heap.get?_push_of_some _ hol
        have lst1 : (s.heap.push (newSetO w)).IsList l its := ⟨_, hol1, rfl, nl, rfl⟩
        have k1 := PySem.F.sub_list_set
        have k2 := PySem.F.sub_list_frozenset
        have k3 : (Value.type "list" == Value.type "dict") = false := by decide
        have sz1 : (s.heap.push (newSetO w)).objs.size = s.heap.objs.size + 1 := by rw [Heap.size_push]
        unfold Builtin.«set.__init__» noKeywords Builtin.Frozenset.updateFrom
        generalize hPI : pyIter = PI
        wp_walk
        subst hPI
        refine wpAny_pyIter_list lst1 (wpAny_bind (wpAny_runValue ?_))
        have nI : l ≠ (s.heap.push (newSetO w)).objs.size := by rw [sz1]; exact Nat.ne_of_lt (Nat.lt_succ_of_lt ll)
        have nS : s.heap.objs.size ∉ [(s.heap.push (newSetO w)).objs.size, l] := by
          rw [sz1]
          intro z
          rcases List.mem_cons.mp z with z | z
          · exact absurd z (Nat.ne_of_lt (Nat.lt_succ_self _))
          · exact absurd (List.mem_singleton.mp z) (Nat.ne_of_gt ll)
        have hh3 : A.in1.in1.in1.handled = none := by simp [hh]
        refine loop_texts ((Walks.list hh3 _ l nI its).toS) s.heap.objs.size nS xs (fun i v hv => strsAre_at hi i v (by rw [Array.getElem?_toList]; exact hv)) few (its.size - 0) 0 _ (by omega) (Nat.zero_le _)
          ⟨⟨_, Heap.get?_push_size _ rfl, rfl, rfl⟩, (lst1.push _)⟩ ?s0 ?s1
        case s0 =>
          exact (newSetS s.heap w).at fun o e => Heap.get?_push_of_some _ e
        case s1 =>
          intro s' mv hS
          obtain ⟨h', g', d', t', o'⟩ := s'
          obtain rfl : g' = s.gens := mv.gens
          obtain rfl : d' = s.drawn := mv.drawn
          obtain rfl : o' = s.os := mv.os
          refine wpAny_pure ?_
          show wpAny _ _ (ret Value.none) _ _ _
          refine wpAny_pure ⟨rfl, h', t', rfl, hS, fun b o e => ?_⟩
          have hb := Heap.lt_size e
          refine mv.heap b o (fun z => ?_) (Heap.get?_push_of_some _ (Heap.get?_push_of_some _ e))
          rcases List.mem_cons.mp z with z | z
          · exact absurd z (Nat.ne_of_lt hb)
          · exact absurd (List.mem_singleton.mp z) (by rw [sz1]; exact Nat.ne_of_lt (Nat.lt_succ_of_lt hb))
      · cases r2 with
        | error e => exact hr2
        | ok fl2 =>
          cases fl2 with
          | ret r =>
            obtain ⟨rfl, h', tk, rfl, hS, hk⟩ := hr2
            have fin := h h' tk hS hk
            repeat (any_goals (first | assumption | wp_step))
          | _ => exact hr2.elim
    | _ => exact hr.elim
end
end PD

namespace PD
open PySem PySem.Spec PyProof.Rows L2
/-! ### over the layer -/
def SetSO (w : World) (a : Addr) (xs : List Str) : HO := .ext fun h => SetS w h a xs
def rSetS (K : PySem.W.Frag) (w : World) : List V → Hp → VK → Prop := fun vs H Q => ∃ (l : Addr) (xs : List Str), vs = [.ref l] ∧ SqL K H l (xs.map V.str) ∧ xs.length < 60 ∧ ∀ p, H p = none → Q (.ref p) (upd H p (SetSO w p (metS xs)))
section
variable {X : Cx}
theorem setSO_ok {P : Program} {w : World} {H : Hp} {h : Heap} {a : Addr} {xs : List Str} (r : SetS w h a xs) : ObjOk P w H h a (SetSO w a xs) :=
  ⟨r, let ⟨o, _, _, _, ⟨e, _⟩, _⟩ := r; ⟨o, e⟩, fun h1 h2 r k => r.at k⟩
theorem cr_setS (hc : X.calm = true) : CallR X (.type "set") (rSetS X.K X.w) := by
  intro pins s σ H vs us Q I r q
  obtain ⟨l, xs, rfl, hl, few, q⟩ := q
  rw [Vals.ref1 r]
  obtain ⟨its, rv, pl, _⟩ := I.list hl
  have hz : its.length = xs.length := by rw [← rv.length, List.length_map]
  have hn : H s.heap.objs.size = none := I.hok.fresh (Nat.le_refl _)
  refine call_set1 (xs := xs) (I.ok.hd hc) pl.isList (by simpa using rv.strs) (by rw [List.size_toArray, hz]; unfold scanBound; omega) fun h1 tk hS k => ?_
  rw [show its.toArray.size = xs.length by rw [List.size_toArray, hz], List.take_length] at hS
  exact ⟨.ref s.heap.objs.size, upd H s.heap.objs.size (SetSO X.w s.heap.objs.size (metS xs)), I.laid (t' := tk) k (Nat.le_refl _) (setSO_ok hS), rfl, q _ hn⟩
end
/-! ### sorted texts -/
theorem leS_iff {x y : Str} : leS x y = true ↔ x.cps.toList ≤ y.cps.toList := by
  unfold leS
  exact decide_eq_true_iff
theorem leS_trans (a b c : Str) (h1 : leS a b = true) (h2 : leS b c = true) : leS a c = true := leS_iff.mpr (List.le_trans (leS_iff.mp h1) (leS_iff.mp h2))
theorem leS_total (a b : Str) : (leS a b || leS b a) = true := by
  rcases List.le_total a.cps.toList b.cps.toList with h | h
  · rw [leS_iff.mpr h]; rfl
  · rw [leS_iff.mpr h, Bool.or_true]
theorem leS_anti (a b : Str) (h1 : leS a b = true) (h2 : leS b a = true) : a = b := by
  have e := List.le_antisymm (leS_iff.mp h1) (leS_iff.mp h2)
  cases a; cases b
  congr 1
  exact Array.toList_inj.mp e
theorem rising_le : ∀ (ys : List Str) (p : Str), risingS p ys = true → (∀ y ∈ ys, leS p y = true) ∧ ys.Pairwise (fun a b => leS a b = true)
  | [], _, _ => ⟨(fun y h => by cases h), .nil⟩
  | y :: r, p, h => by
    unfold risingS at h
    rw [Bool.and_eq_true, ltCps_eq, Bool.not_eq_true', decide_eq_false_iff_not] at h
    obtain ⟨h1, h2⟩ := rising_le r y h.2
    have hp : leS p y = true := leS_iff.mpr (List.not_lt.mp h.1)
    refine ⟨fun z hz => ?_, List.pairwise_cons.mpr ⟨h1, h2⟩⟩
    rcases List.mem_cons.mp hz with rfl | hz
    · exact hp
    · exact leS_trans _ _ _ hp (h1 z hz)
theorem sortedS_pw {ys : List Str} (h : sortedS ys = true) : ys.Pairwise (fun a b => leS a b = true) := by
  cases ys with
  | nil => exact .nil
  | cons y r =>
    obtain ⟨h1, h2⟩ := rising_le r y h
    exact List.pairwise_cons.mpr ⟨h1, h2⟩
theorem sortS_of {xs ys : List Str} (pm : ys.Perm xs) (h : sortedS ys = true) : ys = sortS xs :=
  List.Perm.eq_of_pairwise (fun a b _ _ => leS_anti a b) (sortedS_pw h) (List.pairwise_mergeSort leS_trans leS_total xs) (pm.trans (List.mergeSort_perm xs leS).symm)
/-! ### sorted of a set of texts -/
def rSortSet (w : World) : List V → Hp → VK → Prop := fun vs H Q => ∃ (a : Addr) (xs : List Str), vs = [.ref a] ∧ H a = some (SetSO w a xs) ∧ xs.length < 60 ∧ ∀ p, H p = none → Q (.ref p) (upd H p (.lst ((sortS xs).map V.str)))
theorem strs_of : ∀ (l : List Value), (∀ v ∈ l, ∃ x u, v = Value.str x u) → ∃ xs, StrsAre l xs ∧ xs = l.map fun v => txt (0, v)
  | [], _ => ⟨[], .nil, rfl⟩
  | v :: l, h => by
    obtain ⟨x, u, rfl⟩ := h v List.mem_cons_self
    obtain ⟨xs, h1, h2⟩ := strs_of l fun y hy => h y (List.mem_cons_of_mem _ hy)
    exact ⟨x :: xs, .cons x u h1, by rw [h2]; rfl⟩
theorem sorted_setS {P : Program} {w : World} {A : Around} {E : Value → Shared → Prop} {s : Shared} {a : Addr} {xs : List Str} {Q : Value → Shared → Prop} (R : SetS w s.heap a xs) (hh : A.handled = none) (few : xs.length < 60)
    (hQ : ∀ s1 p (out : Array Value) (c : Nat) (ys : List Str), (∀ b o, s.heap.get? b = some o → s1.heap.get? b = some o) → s1.gens = s.gens → s1.os = s.os → s.heap.objs.size ≤ p → s1.heap.get? p = some (seqObj "list" out c) → StrsAre out.toList ys → ys = sortS xs → Q (.ref p) s1) :
    wpAny (model P w) A (call (.builtin "sorted") [.ref a]) Q E s := by
  obtain ⟨o, es, ep, t, ⟨ho, hx, hd⟩, T⟩ := R
  refine Calls.call_function_entry kind_sorted plain_sorted entry_sorted (args_sorted1 _) ?_
  unfold Builtin.«sorted»
  refine wpAny_bind (m := checkCount "sorted" 1 1 _) (wpAny_pure ?_)
  refine wpAny_bind (collect_set (A := A.in1) hh ⟨o, ho, hx.1, hd⟩ T.fit T.few T.ris T.led fun s1 vs k1 z1 g1 o1 pm => ?_)
  have allS : ∀ v ∈ vs, ∃ x u, v = Value.str x u := fun v hv => by
    obtain ⟨e, he, q⟩ := List.mem_map.mp (pm.mem_iff.mp hv)
    obtain ⟨x, u, e1, _⟩ := T.ent e he
    exact ⟨x, u, by rw [← q]; exact e1⟩
  obtain ⟨ss, hS, ess⟩ := strs_of vs allS
  have pS : ss.Perm xs := by
    rw [ess]
    have q := pm.map fun v => txt (0, v)
    rw [List.map_map] at q
    exact q.trans T.mem
  have hvl : vs.length = ss.length := by rw [ess, List.length_map]
  have hl : vs.length < 64 := by rw [hvl, pS.length_eq]; omega
  refine wpAny_bind (wpAny_newList ?_ (by rw [sizeLine_eq]; omega))
  have hoL : (s1.heap.push (seqObj "list" vs.toArray 0)).get? s1.heap.objs.size = some (seqObj "list" vs.toArray 0) := Heap.get?_push_size _ rfl
  refine wpAny_bind (wpAny_holding (wpAny_call_entry slot_list_sort ⟨_, hoL, rfl⟩ entry_list_sort (list_sort_treeK strKind_oneLt (s := { s1 with heap := s1.heap.push (seqObj "list" vs.toArray 0) }) hoL hS.keysOf (fun v1 v2 rest e => keyKind_strs (by rw [← e]; exact hS)) hl fun st hp hs => ⟨_, rfl, ?_⟩) (args_list_sort _)))
  obtain ⟨ys, y1, y2, y3⟩ := sorted_out_str hS hp hs
  obtain ⟨c, hc⟩ := sortedHeap_at (vs := vs) (out := (arrOf st).map (·.2)) hoL
  refine wpAny_pure ⟨_, rfl, hQ _ s1.heap.objs.size _ c ys (fun b u e => ?_) g1 o1 z1 hc y1 (sortS_of (y2.trans pS) y3)⟩
  have q := k1 b u e
  have lt := Heap.lt_size q
  show (sortedHeap (s1.heap.push (seqObj "list" vs.toArray 0)) s1.heap.objs.size vs _).get? b = some u
  rw [sortedHeap_old (Nat.ne_of_lt lt) (by rw [Heap.size_push]; exact Nat.lt_succ_of_lt lt)]
  exact Heap.get?_push_of_some _ q
section
variable {X : Cx}
theorem cr_sortSet (hc : X.calm = true) : CallR X (.builtin "sorted") (rSortSet X.w) := by
  intro pins s σ H vs us Q I r q
  obtain ⟨a, xs, rfl, ha, few, q⟩ := q
  have R : SetS X.w s.heap a xs := (I.hok a _ ha).1
  rw [Vals.ref1 r]
  refine sorted_setS R (I.ok.hd hc) few fun s1 p out c ys k g o hp hg hS e => ?_
  subst e
  have hn : H p = none := I.hok.fresh hp
  have hz : ((sortS xs).map V.str).length ≤ sizeLine := by
    rw [List.length_map, show (sortS xs).length = xs.length from (List.mergeSort_perm xs leS).length_eq, sizeLine_eq]
    omega
  have J := I.call (g' := s1.gens) (d' := s1.drawn) (t' := s1.toks) (ch := []) (Un.laid k hp hn) (I.hok.laid k hp (o := .lst ((sortS xs).map V.str)) ⟨hz, out.toList, c, vals_of_strs hS, hg⟩) (by rw [g]; exact I.bare) (fun _ z => nomatch z)
  have es : s1 = { s with heap := s1.heap, gens := s1.gens, drawn := s1.drawn, toks := s1.toks } := by
    cases s1
    cases s
    cases o
    rfl
  rw [es]
  exact ⟨.ref p, upd H p (.lst ((sortS xs).map V.str)), J, rfl, q p hn⟩
end
theorem repL_strs {O : Addr → Prop} {ps : Addr} {H : Hp} : ∀ xs : List Str, (∀ x ∈ xs, x.length ≤ sizeLine) → RepL O ps H (xs.map V.str) (xs.map Dat.str)
  | [], _ => .nil
  | x :: xs, h => .cons (.str x (h x List.mem_cons_self)) (repL_strs xs fun y hy => h y (List.mem_cons_of_mem _ hy))
theorem RepL.strs_len {O : Addr → Prop} {ps : Addr} {H : Hp} : ∀ {vs : List V} {ds : List Dat} {xs : List Str}, RepL O ps H vs ds → toStrs ds = some xs → ∀ x ∈ xs, x.length ≤ sizeLine
  | _, _, _, .nil, e => by cases e; intro x hx; cases hx
  | _, _, _, .cons (ds := ds) r l, e => by
    unfold toStrs at e
    split at e
    · rename_i h; cases h
    · rename_i i r' h
      cases h
      cases q : toStrs ds with
      | none => rw [q] at e; cases e
      | some ms =>
        rw [q] at e
        cases e
        cases r with
        | str _ hz =>
        intro x hx
        rcases List.mem_cons.mp hx with rfl | hx
        · exact hz
        · exact RepL.strs_len l q x hx
    · cases e
theorem mem_metS : ∀ (xs ys : List Str) (x : Str), x ∈ xs.foldl insS ys → x ∈ ys ∨ x ∈ xs
  | [], ys, x, h => .inl h
  | y :: xs, ys, x, h => by
    rcases mem_metS xs (insS ys y) x h with h | h
    · unfold insS at h
      split at h
      · exact .inl h
      · rcases List.mem_append.mp h with h | h
        · exact .inl h
        · exact .inr (List.mem_cons.mpr (.inl (List.mem_singleton.mp h)))
    · exact .inr (List.mem_cons_of_mem _ h)
theorem metS_full (xs : List Str) : (metS xs).length ≤ xs.length := by
  have h := metS_len xs xs.length
  rw [List.take_length] at h
  exact h
def mSortSet (a : M) : M := fun env S => (a env S).bind fun r => match r.1 with
  | .lst ds => (toStrs ds).bind fun xs => if xs.length < 60 then some (.lst ((sortS (metS xs)).map .str), r.2) else none
  | _ => none
theorem sn_sortSet {K : PySem.W.Frag} {w : World} {te : TE} {a : M} (h : SB te a) : SN (tCB (rSortSet w) (tCons (tCB (rSetS K w) (tCons te tNil)) tNil)) (mSortSet a) := by
  intro O P σ H env S r Q I e q
  unfold mSortSet at e
  cases ea : a env S with
  | none => rw [ea] at e; cases e
  | some x =>
    rw [ea] at e
    simp only [Option.bind_some] at e
    split at e
    · rename_i ds hd
      cases en : toStrs ds with
      | none => rw [en] at e; cases e
      | some xs =>
        rw [en] at e
        simp only [Option.bind_some] at e
        split at e
        · rename_i few
          cases e
          refine h O P σ H env S x _ I ea fun v H1 f1 s1 rv => ?_
          rw [hd] at rv
          obtain ⟨b, vs, rfl, hb, hz, l, _⟩ := rv.lst I.ops
          have len := l.strs_len en
          refine ⟨b, xs, rfl, l.strs en ▸ SqL.of hb, few, fun p n => ?_⟩
          have s2 := s1.new (o := SetSO w p (metS xs)) n
          refine ⟨p, metS xs, rfl, upd_same, Nat.lt_of_le_of_lt (metS_full xs) few, fun p2 n2 => ?_⟩
          have np : p ≠ p2 := ne_of_none upd_same n2
          have n1 : H1 p2 = none := by rw [upd_ne np.symm] at n2; exact n2
          have f2 : Fr P H1 (upd H1 p (SetSO w p (metS xs))) := .new n
          refine q p2 _ (back_none f1 s1 n1) (ne_ps s1 n1) ((f1.trans f2).trans (.new n2)) (s2.new n2) ⟨_, upd_same, ?_, repL_strs _ fun y hy => ?_⟩
          · rw [List.length_map, show (sortS (metS xs)).length = (metS xs).length from (List.mergeSort_perm _ leS).length_eq, sizeLine_eq]
            have := metS_full xs
            omega
          · have hy2 : y ∈ metS xs := (List.mergeSort_perm _ leS).mem_iff.mp hy
            rcases mem_metS xs [] y hy2 with z | z
            · cases z
            · exact len y z
        · cases e
    · cases e
theorem pn_sortSet {X : Cx} {e : Expr} {te : TE} {a : M} {p p2 pos pos2 : Pos} (hc : X.calm = true) (hg : Gl X "sorted") (hm : X.mg "sorted" = none) (hg2 : Gl X "set") (hm2 : X.mg "set" = none) (h : PDB X e te a)
    (na : starEach [e] X.env = (false, eval e X.env) :: starEach [] X.env := by rfl) (nb : starEach [(.Call (.Name "set" p2) [e] [] pos2 : Expr)] X.env = (false, eval (.Call (.Name "set" p2) [e] [] pos2) X.env) :: starEach [] X.env := by rfl)
    (pa' : (backTo pos2 (starEach [] X.env)).any (·.1) = false := by rfl) (pb : (backTo pos (starEach [] X.env)).any (·.1) = false := by rfl) :
    PDN X (.Call (.Name "sorted" p) [.Call (.Name "set" p2) [e] [] pos2] [] pos) (tCB (rSortSet X.w) (tCons (tCB (rSetS X.K X.w) (tCons te tNil)) tNil)) (mSortSet a) :=
  ⟨pe_callB (cr_sortSet hc) hg hm (by decide +kernel) (pa_cons (pe_callTy (cr_setS hc) hg2 hm2 (by decide +kernel) (pa_cons h.pe pa_nil na) (by decide) (by decide) na pa') pa_nil nb) (by decide) (by decide) nb pb, sn_sortSet h.sem⟩
/-! ### sorted of texts, ints, pairs of a text and an int -/
def toPairs : List Dat → Option (List (Str × Int))
  | [] => some []
  | .tup [.str x, .int i] :: r => (toPairs r).map ((x, i) :: ·)
  | _ => none
def pairD (b : Str × Int) : Dat := .tup [.str b.1, .int b.2]
def pairP (b : Str × Int) : PyData := .tuple [.str b.1, .int b.2]
def sortP (bs : List (Str × Int)) : List (Str × Int) := bs.mergeSort (PySem.W.dataLe false pairP)
def gSortA : List Dat → Option Dat
  | [.lst ds] => match toStrs ds with
    | some xs => if xs.length < 64 then some (.lst ((sortS xs).map .str)) else none
    | none => match toPairs ds with
      | some bs => if bs.length ≤ 1000 then some (.lst ((sortP bs).map pairD)) else none
      | none => none
  | _ => none
def rSortP (K : PySem.W.Frag) : List V → Hp → VK → Prop := fun vs H Q => ∃ (a : Addr) (ws : List V) (bs : List (Str × Int)) (T : V → Str × Int → Prop), vs = [.ref a] ∧ SqL K H a ws ∧ Paired T ws bs ∧ (∀ x b, T x b → Dp K H x (pairP b)) ∧ bs.length ≤ 1000 ∧
  ∀ zs p, Paired T zs (sortP bs) → H p = none → Q (.ref p) (upd H p (.lst zs))
theorem pairs_each {T : V → Str × Int → Prop} : ∀ {ws : List V} {bs : List (Str × Int)} {us : List Value}, Paired T ws bs → Vals ws us → PySem.W.EachIs (fun v b => ∃ x, RelV x v ∧ T x b) us bs
  | _, _, _, .nil, .nil => .nil
  | _, _, _, .cons h t, .cons r q => .cons ⟨_, r, h⟩ (pairs_each t q)
theorem each_pairs {T : V → Str × Int → Prop} : ∀ {us : List Value} {bs : List (Str × Int)}, PySem.W.EachIs (fun v b => ∃ x, RelV x v ∧ T x b) us bs → ∃ zs, Vals zs us ∧ Paired T zs bs
  | _, _, .nil => ⟨[], .nil, .nil⟩
  | _, _, .cons ⟨x, r, h⟩ q => by
    obtain ⟨zs, h1, h2⟩ := each_pairs q
    exact ⟨x :: zs, .cons r h1, .cons h h2⟩
theorem cr_sortP {X : Cx} {k : Nat} (hr : Room k X.A) : CallR X (.builtin "sorted") (rSortP X.K) := by
  intro pins s σ H vs us Q I r q
  obtain ⟨a, ws, bs, T, rfl, hs, pT, hT, hz, q⟩ := q
  obtain ⟨its, rv, pl, hz2⟩ := I.list hs
  rw [Vals.ref1 r]
  have e0 := pairs_each pT rv
  have al : ∀ b b' : Str × Int, PySem.W.alike (pairP b) (pairP b') = true := fun b b' => by simp [pairP, PySem.W.alike, PySem.W.alikeAll]
  have dp : ∀ b : Str × Int, (pairP b).depth = 1 := fun b => by simp [pairP, PyData.depth, PyData.depthAll]
  refine PySem.W.sorted_data (enc := pairP) pl.isList e0 (e0.mono fun v b ⟨x, r1, t1⟩ => Dp.reads I _ x v (hT x b t1) r1) (PySem.W.AllAlike.of al) (PySem.W.Sortable.tuples fun b => ⟨_, _, rfl⟩) (Nat.le_trans hz (by decide)) (fun b _ => by rw [dp]; have := hr.un; omega) fun out ho eo => ?_
  obtain ⟨zs, v1, v2⟩ := each_pairs eo
  obtain ⟨ep, he⟩ := sortedAll_at s.heap its out.toArray
  have hzl : zs.length ≤ sizeLine := by rw [v1.length, ho]; exact Nat.le_trans hz (by decide)
  exact ⟨.ref (s.heap.objs.size + 1), upd H (s.heap.objs.size + 1) (.lst zs), I.laid (t' := s.toks) (fun _ _ => sortedAll_old) (Nat.le_succ _) ⟨hzl, out, ep, v1, he⟩, rfl, q zs _ v2 (I.hok.fresh (Nat.le_succ _))⟩
theorem CallR.or {X : Cx} {f : Value} {r r' : List V → Hp → VK → Prop} (h : CallR X f r) (h' : CallR X f r') : CallR X f (fun vs H Q => r vs H Q ∨ r' vs H Q) := fun pins s σ H xs us Q I rx q => q.elim (h pins s σ H xs us Q I rx) (h' pins s σ H xs us Q I rx)
def rSortA (K : PySem.W.Frag) : List V → Hp → VK → Prop := fun vs H Q => rSortedS K vs H Q ∨ rSortP K vs H Q
theorem cr_sortA {X : Cx} {k : Nat} (hr : Room k X.A) : CallR X (.builtin "sorted") (rSortA X.K) := CallR.or cr_sortedS (cr_sortP hr)
theorem RepL.pairs {O : Addr → Prop} {ps : Addr} {H : Hp} : ∀ {vs : List V} {ds : List Dat} {bs : List (Str × Int)}, RepL O ps H vs ds → toPairs ds = some bs → Paired (fun x b => Rep O ps H x (pairD b)) vs bs
  | _, _, _, .nil, e => by cases e; exact .nil
  | _, _, _, .cons (ds := ds) r l, e => by
    unfold toPairs at e
    split at e
    · rename_i h; cases h
    · rename_i x i r' h
      cases h
      cases q : toPairs ds with
      | none => rw [q] at e; cases e
      | some ms => rw [q] at e; cases e; exact .cons r (RepL.pairs l q)
    · cases e
theorem repL_pairs {O : Addr → Prop} {ps : Addr} {H : Hp} : ∀ {vs : List V} {bs : List (Str × Int)}, Paired (fun x b => Rep O ps H x (pairD b)) vs bs → RepL O ps H vs (bs.map pairD)
  | _, _, .nil => .nil
  | _, _, .cons r l => .cons r (repL_pairs l)
theorem cn_sortA {K : PySem.W.Frag} : CN (rSortA K) gSortA := by
  intro O P H S vs ds z Q I rs eg q
  unfold gSortA at eg
  split at eg
  · obtain ⟨v, rfl, r⟩ := rs.one
    obtain ⟨a, vs, rfl, ha, hz, l, _⟩ := r.lst I.ops
    split at eg
    · rename_i xs en
      split at eg
      · rename_i few
        cases eg
        have len := l.strs_len en
        refine .inl ⟨a, xs, rfl, l.strs en ▸ SqL.of ha, few, fun ys p pm srt n => ?_⟩
        have e := sortS_of pm srt
        subst e
        refine q p _ n (.new n) (I.sm.new n) ⟨_, upd_same, ?_, repL_strs _ fun y hy => len y (pm.mem_iff.mp hy)⟩
        rw [List.length_map, pm.length_eq, sizeLine_eq]
        omega
      · cases eg
    · split at eg
      · rename_i bs en
        split at eg
        · rename_i few
          cases eg
          refine .inr ⟨a, vs, bs, fun x b => Rep O P.ps H x (pairD b), rfl, SqL.of ha, l.pairs en, fun x b h => h.dp rfl, few, fun zs p pz n => ?_⟩
          refine q p _ n (.new n) (I.sm.new n) (own_new n ?_ (repL_pairs pz))
          have hl : zs.length = (sortP bs).length := Paired.length pz
          rw [hl, show (sortP bs).length = bs.length from (List.mergeSort_perm _ _).length_eq]
          exact le1000 few
        · cases eg
      · cases eg
  · cases eg
/-! ### list(..), tuple(..) -/
def gLstA : List Dat → Option Dat
  | [.lst ds] => some (.lst ds)
  | [.tup ds] => some (.lst ds)
  | [.str x] => if x.length ≤ 1000 then some (.lst (signsD x)) else none
  | _ => none
def rListStr : List V → Hp → VK → Prop := fun vs H Q => ∃ x : Str, vs = [.str x] ∧ x.length ≤ 1000 ∧ ∀ p, H p = none → Q (.ref p) (upd H p (.lst (x.cps.toList.map fun c => V.str ⟨#[c]⟩)))
theorem cr_listStr {X : Cx} (hc : X.calm = true) : CallR X (.type "list") rListStr := by
  intro pins s σ H vs us Q I r q
  obtain ⟨x, rfl, hz, q⟩ := q
  obtain ⟨u, rfl, t, rfl⟩ := vals1 r
  refine call_list_str (I.ok.hd hc) x t (fun h1 tk acc c hk hS hacc => ?_) (le1000 hz)
  have hn : H s.heap.objs.size = none := I.hok.fresh (Nat.le_refl _)
  have hv : Vals (x.cps.toList.map fun c => V.str ⟨#[c]⟩) acc.toList := by
    have go : ∀ (cs : List Nat) (us : List Value), us.length = cs.length → (∀ (j : Nat) (v : Value), us[j]? = some v → ∃ c u, cs[j]? = some c ∧ v = Value.str ⟨#[c]⟩ u) → Vals (cs.map fun c => V.str ⟨#[c]⟩) us := by
      intro cs
      induction cs with
      | nil => intro us h _; cases us with | nil => exact .nil | cons _ _ => cases h
      | cons c cs ih =>
        intro us h hh
        cases us with
        | nil => cases h
        | cons v us =>
          obtain ⟨c', u, e1, e2⟩ := hh 0 v rfl
          cases e1
          exact .cons ⟨u, e2⟩ (ih us (by simpa using h) fun j v hv => hh (j + 1) v hv)
    refine go _ _ (by rw [Array.length_toList, Array.length_toList]; exact hacc.1) fun j v hv => ?_
    obtain ⟨c, u, e1, e2⟩ := hacc.2 j v (by rw [Array.getElem?_toList] at hv; exact hv)
    exact ⟨c, u, by rw [Array.getElem?_toList]; exact e1, e2⟩
  have hl : (x.cps.toList.map fun c => V.str ⟨#[c]⟩).length ≤ sizeLine := by
    rw [List.length_map, Array.length_toList]
    exact le1000 hz
  exact ⟨.ref s.heap.objs.size, upd H s.heap.objs.size (.lst (x.cps.toList.map fun c => V.str ⟨#[c]⟩)), I.laid (t' := tk) hk (Nat.le_refl _) ⟨hl, acc.toList, c, hv, hS⟩, rfl, q _ hn⟩
def rListA (K : PySem.W.Frag) : List V → Hp → VK → Prop := fun vs H Q => (fun xs H Q => ∃ p ys, xs = [V.ref p] ∧ (SqL K H p ys ∨ SqT K H p ys) ∧ ∀ l, H l = none → Q (V.ref l) (upd H l (.lst ys))) vs H Q ∨ rListStr vs H Q
theorem call_listA {X : Cx} (hc : X.calm = true) : CallR X (.type "list") (rListA X.K) := CallR.or call_list_of (cr_listStr hc)
theorem repL_signs {O : Addr → Prop} {ps : Addr} {H : Hp} (x : Str) : RepL O ps H (x.cps.toList.map fun c => V.str ⟨#[c]⟩) (signsD x) := by
  unfold signsD
  induction x.cps.toList with
  | nil => exact .nil
  | cons c cs ih => exact .cons (.str _ (by show 1 ≤ sizeLine; decide)) ih
theorem cn_listA {K : PySem.W.Frag} : CN (rListA K) gLstA := by
  intro O P H S vs ds z Q I rs eg q
  unfold gLstA at eg
  split at eg
  · exact .inl (cn_list O P H S vs _ z Q I rs eg q)
  · exact .inl (cn_list O P H S vs _ z Q I rs eg q)
  · split at eg
    · rename_i hz
      cases eg
      obtain ⟨v, rfl, r⟩ := rs.one
      obtain ⟨rfl, _⟩ := r.str
      exact .inr ⟨_, rfl, hz, fun p n => q p _ n (.new n) (I.sm.new n) (own_new n (by rw [List.length_map, Array.length_toList]; exact le1000 hz) (repL_signs _))⟩
    · cases eg
  · cases eg
abbrev rTupA := @rTupF
theorem call_tupA {X : Cx} (hc : X.calm = true) : CallR X (.type "tuple") (rTupF X.K) := call_tupF
abbrev gTupA := gTupOf
theorem cs_tupA {K : PySem.W.Frag} : CS (rTupF K) gTupA := cs_tuple
end PD

namespace PD
open PySem PySem.Spec PyProof.Rows L2
/-! ### comprehensions of two clauses -/
/-- all is kept but the stream and D -/
def FrD (P : Fix) (D : Addr) (H H' : Hp) : Prop := ∀ a o, a ≠ P.ps → a ≠ D → H a = some o → H' a = some o
theorem FrD.refl {P : Fix} {D : Addr} {H : Hp} : FrD P D H H := fun _ _ _ _ h => h
theorem FrD.fr {P : Fix} {D : Addr} {H H1 H2 : Hp} (a : FrD P D H H1) (b : Fr P H1 H2) : FrD P D H H2 := fun x o n m h => b x o n (a x o n m h)
theorem FrD.upd {P : Fix} {D : Addr} {H H1 : Hp} {o : HO} (a : FrD P D H H1) : FrD P D H (upd H1 D o) := fun x u n m h => (upd_ne m).trans (a x u n m h)
theorem FrD.trans {P : Fix} {D : Addr} {H H1 H2 : Hp} (a : FrD P D H H1) (b : FrD P D H1 H2) : FrD P D H H2 := fun x o n m h => b x o n m (a x o n m h)
theorem FrD.tr {O : Addr → Prop} {P : Fix} {D : Addr} {H H1 : Hp} (a : FrD P D H H1) (o : O P.ps) (oD : O D) : Tr O H O H1 := .of fun x u na h => ⟨na, a x u (fun e => na (e ▸ o)) (fun e => na (e ▸ oD)) h⟩
theorem EI.frD {O : Addr → Prop} {P : Fix} {D : Addr} {σ : L2.St} {H H' : Hp} {env : DEnv} {S S' : Sm} (I : EI O P σ H env S) (f : FrD P D H H') (s : StrmAt P H' S') (oD : O D) (hD : ∃ o, H' D = some o)
    (nod : ∀ (i : Nat) d p, env[i]? = some (.ow d) → σ[i]? = some (some (.ref p)) → p ≠ D) : EI O P σ H' env S' where
  ops := I.ops
  nq := I.nq
  dom := fun a o => by
    by_cases e : a = P.ps
    · rw [e, s.1]; simp
    · by_cases e2 : a = D
      · obtain ⟨o, h⟩ := hD; rw [e2, h]; simp
      · cases q : H a with
        | none => exact absurd q (I.dom a o)
        | some u => rw [f a u e e2 q]; simp
  sm := s
  len := I.len
  fz := fun i d e => let ⟨v, h1, h2⟩ := I.fz i d e; ⟨v, h1, h2.tr (f.tr I.ops oD)⟩
  ow := fun i d e => let ⟨p, h1, h2, h3, h4⟩ := I.ow i d e; ⟨p, h1, h2, h3, h4.mono (f.tr I.ops oD) fun o h => f p o h3 (nod i d p e h1) h⟩
theorem lc_in {g : TG} {tt : TT} {te : TE} {b : MG} {c : MT} {m : M} {ix vs : List Nat} (hg : SG g ix b) (hc : ST tt c) (he : SE te m) (hix : ∀ i ∈ ix, i ∈ vs)
    {O : Addr → Prop} {P : Fix} {D : Addr} {σ : L2.St} {H0 : Hp} {env : DEnv} {S0 : Sm} {J : It} {ds : List Dat} {w : List Dat × Sm} {acc0 : List V} {accD0 : List Dat} {Nx : Hp → Prop}
    (I : EI O P σ H0 env S0) (oD : O D) (npD : D ≠ P.ps) (nqD : P.qs ≠ D) (hD : H0 D = some (.lst acc0)) (rl : RepL O P.ps H0 acc0 accD0)
    (nod : ∀ (i : Nat) d p, env[i]? = some (.ow d) → σ[i]? = some (some (.ref p)) → p ≠ D) (ok : ItOk P.ps (Lt2 O H0) J ds)
    (eg : lcGo b c m (wipeE env vs) ds S0 = some w) (hz : acc0.length + w.1.length ≤ 1000)
    (nx : ∀ H' acc', H' D = some (.lst acc') → RepL O P.ps H' acc' (accD0 ++ w.1) → FrD P D H0 H' → StrmAt P H' w.2 → Nx H') :
    ∃ W : Nat → Nat → Hp → Prop, (∃ m, W 0 m H0) ∧ ∀ i k H, W i k H →
      (J.stop i H ∧ Nx H) ∨ (J.go i H ∧ ∃ Nx1 : Hp → Prop, (∀ H', Nx1 H' → ∃ k', k' < k ∧ W (i + 1) k' H') ∧ ∀ x H', J.yld i H x H' → g x (wipe σ vs) H' fun σ3 H5 => wipe σ3 vs = wipe σ vs ∧ tt σ3 H5 fun b H6 =>
        if b = true then te σ3 H6 fun y H7 => ∃ acc, H7 D = some (.lst acc) ∧ acc.length < sizeLine ∧ Nx1 (upd H7 D (.lst (acc ++ [y]))) else Nx1 H6) := by
  refine ⟨fun i k H' => ∃ (acc : List V) (accD rest : List Dat) (S' : Sm), k = ds.length - i ∧ i ≤ ds.length ∧ FrD P D H0 H' ∧ StrmAt P H' S' ∧ H' D = some (.lst acc) ∧ RepL O P.ps H' acc (accD0 ++ accD) ∧
    lcGo b c m (wipeE env vs) (ds.drop i) S' = some (rest, w.2) ∧ accD ++ rest = w.1, ⟨_, acc0, [], w.1, S0, rfl, Nat.zero_le _, .refl, I.sm, hD, by rw [List.append_nil]; exact rl, by rw [List.drop_zero]; exact eg, rfl⟩, ?_⟩
  rintro i k H' ⟨acc, accD, rest, S', rfl, hil, f', s', hD', rl', go, hw⟩
  have I' := I.frD f' s' oD ⟨_, hD'⟩ nod
  have lt' : Lt2 O H0 O H' := ⟨f'.tr I.ops oD, I'.dom⟩
  by_cases hlt : i < ds.length
  · have hd : ds[i]? = some ds[i] := List.getElem?_eq_getElem hlt
    rw [List.drop_eq_getElem_cons hlt] at go
    unfold lcGo at go
    refine .inr ⟨ok.go _ H' i lt' hlt, fun H'' => ∃ k', k' < ds.length - i ∧ ∃ (acc : List V) (accD rest : List Dat) (S' : Sm), k' = ds.length - (i + 1) ∧ i + 1 ≤ ds.length ∧ FrD P D H0 H'' ∧ StrmAt P H'' S' ∧ H'' D = some (.lst acc) ∧ RepL O P.ps H'' acc (accD0 ++ accD) ∧
      lcGo b c m (wipeE env vs) (ds.drop (i + 1)) S' = some (rest, w.2) ∧ accD ++ rest = w.1, fun H'' h => h, fun x H2 hy => ?_⟩
    obtain ⟨sm2, rx⟩ := ok.yld _ H' i x H2 _ lt' hd hy
    have f2 : Fr P H' H2 := fun a o _ h => sm2 a o h
    have s2 : StrmAt P H2 S' := ⟨sm2 _ _ s'.1, sm2 _ _ s'.2⟩
    have I2 := (I'.fr f2 s2).wiped vs
    cases eb : b ds[i] (wipeE env vs) with
    | none => rw [eb] at go; cases go
    | some env1 =>
      rw [eb] at go
      simp only [Option.bind_some] at go
      refine hg _ P _ H2 _ env1 S' x _ _ I2 rx eb fun σ2 I3 st => ⟨?_, ?_⟩
      · rw [wipe_eq (st.len) st.out hix]
        exact wipe_eq (ix := vs) (by rw [wipe_length]) (fun i h => wipe_out h) fun i h => h
      · cases ec : c env1 S' with
        | none => rw [ec] at go; cases go
        | some t =>
          rw [ec] at go
          simp only [Option.bind_some] at go
          refine hc _ P σ2 H2 env1 S' t _ I3 ec fun H3 f3 s3 => ?_
          have I4 := I3.fr f3 s3
          split
          · rename_i ht
            rw [if_pos ht] at go
            cases em : m env1 t.2 with
            | none => rw [em] at go; cases go
            | some y =>
              rw [em] at go
              simp only [Option.bind_some] at go
              cases er : lcGo b c m (wipeE env vs) (ds.drop (i + 1)) y.2 with
              | none => rw [er] at go; cases go
              | some w2 =>
                rw [er] at go
                simp only [Option.map_some, Option.some.injEq, Prod.mk.injEq] at go
                obtain ⟨g1, g2⟩ := go
                refine he _ P σ2 H3 env1 t.2 y _ I4 em fun v H4 f4 s4 rv => ?_
                have fD : Fr P H' H4 := (f2.trans f3).trans f4
                have hD4 : H4 D = some (.lst acc) := fD D _ npD hD'
                have trU : Tr O H4 O (upd H4 D (.lst (acc ++ [v]))) := .of fun a u na h => ⟨na, (upd_ne fun (e : a = D) => na (e ▸ oD)).trans h⟩
                have hl := rl'.len
                have hl0 := rl.len
                have hwl := congrArg List.length hw
                rw [← g1] at hwl
                rw [List.length_append] at hl
                rw [List.length_append, List.length_cons] at hwl
                have hz' : acc.length < sizeLine := by
                  have : (1000 : Nat) ≤ sizeLine := by decide
                  omega
                have rl4 := (rl'.tr (fD.tr (O := O) I.ops)).app (.cons rv .nil)
                refine ⟨acc, hD4, hz', _, Nat.sub_lt_sub_left hlt (Nat.lt_succ_self i), acc ++ [v], accD ++ [y.1], w2.1, y.2, rfl, hlt, (f'.fr fD).upd, ?_, upd_same, ?_, ?_, ?_⟩
                · exact ⟨(upd_ne fun e => npD e.symm).trans s4.1, (upd_ne nqD).trans s4.2⟩
                · have z := rl4.tr trU
                  rw [List.append_assoc] at z
                  exact z
                · rw [er, ← g2]
                · rw [List.append_assoc]
                  show accD ++ (y.1 :: w2.1) = w.1
                  rw [g1]
                  exact hw
          · rename_i ht
            rw [if_neg ht] at go
            exact ⟨_, Nat.sub_lt_sub_left hlt (Nat.lt_succ_self i), acc, accD, rest, t.2, rfl, hlt, f'.fr (f2.trans f3), s3, f3 D _ npD (f2 D _ npD hD'), rl'.tr ((f2.trans f3).tr (O := O) I.ops), go, hw⟩
  · have hi' : i = ds.length := by omega
    rw [List.drop_of_length_le (by omega)] at go
    unfold lcGo at go
    simp only [Option.some.injEq, Prod.mk.injEq] at go
    obtain ⟨g1, g2⟩ := go
    subst g1
    rw [List.append_nil] at hw
    subst hw
    exact .inl ⟨hi' ▸ ok.stop _ H' lt', nx H' acc hD' rl' f' (g2 ▸ s')⟩
def lcGo2 (b : MG) (c : MT) (mi1 : ML) (b1 : MG) (c1 : MT) (e : M) (vs1 : List Nat) (env : DEnv) : List Dat → Sm → Option (List Dat × Sm)
  | [], S => some ([], S)
  | d :: ds, S => (b d env).bind fun env1 => (c env1 S).bind fun t => if t.1 = true then (mi1 env1 t.2).bind fun r => (lcGo b1 c1 e (wipeE env1 vs1) r.1 r.2).bind fun w1 => (lcGo2 b c mi1 b1 c1 e vs1 env ds w1.2).map fun w => (w1.1 ++ w.1, w.2)
    else lcGo2 b c mi1 b1 c1 e vs1 env ds t.2
def mLc2 (mi : ML) (b : MG) (c : MT) (mi1 : ML) (b1 : MG) (c1 : MT) (e : M) (vs vs1 : List Nat) : M := fun env S => (mi env S).bind fun r => (lcGo2 b c mi1 b1 c1 e vs1 (wipeE env vs) r.1 r.2).bind fun w => if w.1.length ≤ 1000 then some (.lst w.1, w.2) else none
theorem sn_lc2 {wi wi1 : TI} {g g1 : TG} {tt tt1 : TT} {te : TE} {mi mi1 : ML} {ix ix1 vs vs1 : List Nat} {b b1 : MG} {c c1 : MT} {m : M} (hi : SI wi mi) (hg : SG g ix b) (hc : ST tt c) (hi1 : SF wi1 mi1) (hg1 : SG g1 ix1 b1) (hc1 : ST tt1 c1) (he : SE te m)
    (hix : ∀ i ∈ ix, i ∈ vs) (hix1 : ∀ i ∈ ix1, i ∈ vs1) : SN (tLc2 wi g tt wi1 g1 tt1 te vs vs1) (mLc2 mi b c mi1 b1 c1 m vs vs1) := by
  intro O P σ H env S r Q I e q
  unfold mLc2 at e
  cases ei : mi env S with
  | none => rw [ei] at e; cases e
  | some it =>
    rw [ei] at e
    simp only [Option.bind_some] at e
    cases eg : lcGo2 b c mi1 b1 c1 m vs1 (wipeE env vs) it.1 it.2 with
    | none => rw [eg] at e; cases e
    | some w =>
      rw [eg] at e
      simp only [Option.bind_some] at e
      by_cases hfew : w.1.length ≤ 1000
      case neg => rw [if_neg hfew] at e; cases e
      rw [if_pos hfew] at e
      cases e
      refine hi O P σ H env S it _ I ei fun J H1 f1 s1 ok => ?_
      intro D nD
      have npD : D ≠ P.ps := ne_ps s1 nD
      have I1 := I.fr f1 s1
      have nqD : P.qs ≠ D := ne_of_none s1.2 nD
      have trD : ∀ H', Fr P H1 H' → Tr O H1 (fun a => O a ∨ a = D) H' := fun H' f => .of fun a u na h => ⟨fun z => z.elim na fun e => absurd (e ▸ h) (by rw [nD]; simp), f a u (fun e => na (e ▸ I.ops)) h⟩
      have later : ∀ H' S', Fr P H1 H' → StrmAt P H' S' → (∃ o, H' D = some o) → EI (fun a => O a ∨ a = D) P σ H' env S' := fun H' S' f s hD =>
        ⟨.inl I.ops, fun z => z.elim I.nq nqD, fun a z => z.elim (fun z => (I1.fr f s).dom a z) fun z => by obtain ⟨o, h⟩ := hD; rw [z, h]; simp, s, I.len,
          fun i d h => let ⟨v, h1, h2⟩ := I1.fz i d h; ⟨v, h1, h2.tr (trD H' f)⟩, fun i d h => let ⟨p, h1, h2, h3, h4⟩ := I1.ow i d h; ⟨p, h1, .inl h2, h3, h4.mono (trD H' f) fun o h => f p o h3 h⟩⟩
      refine ⟨fun i k H' => ∃ (acc : List V) (accD rest : List Dat) (S' : Sm), k = it.1.length - i ∧ i ≤ it.1.length ∧ Fr P H1 H' ∧ StrmAt P H' S' ∧ H' D = some (.lst acc) ∧ RepL (fun a => O a ∨ a = D) P.ps H' acc accD ∧
        lcGo2 b c mi1 b1 c1 m vs1 (wipeE env vs) (it.1.drop i) S' = some (rest, w.2) ∧ accD ++ rest = w.1, ⟨_, [], [], w.1, it.2, rfl, Nat.zero_le _, .new nD, s1.new nD, upd_same, .nil, by rw [List.drop_zero]; exact eg, rfl⟩, ?_⟩
      rintro i k H' ⟨acc, accD, rest, S', rfl, hil, f', s', hD, rl, go, hw⟩
      have I' := later H' S' f' s' ⟨_, hD⟩
      have lt' : Lt1 O P H1 (fun a => O a ∨ a = D) H' := ⟨trD H' f', f', I'.dom⟩
      by_cases hlt : i < it.1.length
      · have hd : it.1[i]? = some it.1[i] := List.getElem?_eq_getElem hlt
        rw [List.drop_eq_getElem_cons hlt] at go
        unfold lcGo2 at go
        refine .inr ⟨ok.go _ H' i lt' hlt, fun H'' => ∃ k', k' < it.1.length - i ∧ ∃ (acc : List V) (accD rest : List Dat) (S' : Sm), k' = it.1.length - (i + 1) ∧ i + 1 ≤ it.1.length ∧ Fr P H1 H'' ∧ StrmAt P H'' S' ∧ H'' D = some (.lst acc) ∧ RepL (fun a => O a ∨ a = D) P.ps H'' acc accD ∧
          lcGo2 b c mi1 b1 c1 m vs1 (wipeE env vs) (it.1.drop (i + 1)) S' = some (rest, w.2) ∧ accD ++ rest = w.1, fun H'' h => h, fun x H2 hy => ?_⟩
        obtain ⟨sm2, rx⟩ := ok.yld _ H' i x H2 _ lt' hd hy
        have f2 : Fr P H' H2 := fun a o _ h => sm2 a o h
        have s2 : StrmAt P H2 S' := ⟨sm2 _ _ s'.1, sm2 _ _ s'.2⟩
        have I2 := (I'.fr f2 s2).wiped vs
        cases eb : b it.1[i] (wipeE env vs) with
        | none => rw [eb] at go; cases go
        | some env1 =>
          rw [eb] at go
          simp only [Option.bind_some] at go
          refine hg _ P _ H2 _ env1 S' x _ _ I2 rx eb fun σ2 I3 st => ⟨?_, ?_⟩
          · rw [wipe_eq (st.len) st.out hix]
            exact wipe_eq (ix := vs) (by rw [wipe_length]) (fun i h => wipe_out h) fun i h => h
          · cases ec : c env1 S' with
            | none => rw [ec] at go; cases go
            | some t =>
              rw [ec] at go
              simp only [Option.bind_some] at go
              refine hc _ P σ2 H2 env1 S' t _ I3 ec fun H3 f3 s3 => ?_
              have I4 := I3.fr f3 s3
              split
              · rename_i ht
                rw [if_pos ht] at go
                cases ej : mi1 env1 t.2 with
                | none => rw [ej] at go; cases go
                | some r1 =>
                  rw [ej] at go
                  simp only [Option.bind_some] at go
                  cases eg1 : lcGo b1 c1 m (wipeE env1 vs1) r1.1 r1.2 with
                  | none => rw [eg1] at go; cases go
                  | some w1 =>
                    rw [eg1] at go
                    simp only [Option.bind_some] at go
                    cases er : lcGo2 b c mi1 b1 c1 m vs1 (wipeE env vs) (it.1.drop (i + 1)) w1.2 with
                    | none => rw [er] at go; cases go
                    | some w2 =>
                      rw [er] at go
                      simp only [Option.map_some, Option.some.injEq, Prod.mk.injEq] at go
                      obtain ⟨g1', g2'⟩ := go
                      refine hi1 _ P σ2 H3 env1 t.2 r1 _ I4 ej fun J1 H4 f4 s4 ok1 => ?_
                      have I5 := I4.fr f4 s4
                      have fD : Fr P H' H4 := (f2.trans f3).trans f4
                      have hD4 : H4 D = some (.lst acc) := fD D _ npD hD
                      have rl4 := rl.tr (fD.tr (O := fun a => O a ∨ a = D) (.inl I.ops))
                      have hl := rl.len
                      have hwl := congrArg List.length hw
                      rw [← g1', List.length_append, List.length_append] at hwl
                      refine lc_in hg1 hc1 he hix1 I5 (.inr rfl) npD nqD hD4 rl4 (fun j d p ee es => ?_) ok1 eg1 (by omega) fun H5 acc' hD5 rl5 f5 s5 => ?_
                      · -- an owned thing is older than D
                        have e1 := (st.ow j d).mp ee
                        have e2 := st.owS j d e1
                        obtain ⟨e3, e4⟩ := wipeE_get (fun z => by cases z) e1
                        rw [e2, wipe_out e4] at es
                        obtain ⟨p', h1, h2, h3, h4⟩ := I1.ow j d e3
                        rw [h1] at es
                        cases es
                        obtain ⟨o, ho⟩ := h4.some
                        intro z
                        rw [z, nD] at ho
                        cases ho
                      · refine ⟨_, Nat.sub_lt_sub_left hlt (Nat.lt_succ_self i), acc', accD ++ w1.1, w2.1, w1.2, rfl, hlt, fun a o na h => ?_, s5, hD5, rl5, ?_, ?_⟩
                        · exact f5 a o na (ne_of_none h nD) ((f'.trans fD) a o na h)
                        · rw [er, ← g2']
                        · rw [List.append_assoc, g1']
                          exact hw
              · rename_i ht
                rw [if_neg ht] at go
                exact ⟨_, Nat.sub_lt_sub_left hlt (Nat.lt_succ_self i), acc, accD, rest, t.2, rfl, hlt, (f'.trans f2).trans f3, s3, f3 D _ npD (f2 D _ npD hD), rl.tr ((f2.trans f3).tr (O := fun a => O a ∨ a = D) (.inl I.ops)), go, hw⟩
      · have hi' : i = it.1.length := by omega
        rw [List.drop_of_length_le (by omega)] at go
        unfold lcGo2 at go
        simp only [Option.some.injEq, Prod.mk.injEq] at go
        obtain ⟨g1', g2'⟩ := go
        subst g1'
        rw [List.append_nil] at hw
        subst hw
        have hl := rl.len
        refine .inl ⟨hi' ▸ ok.stop _ H' lt', q D H' (back_none f1 s1 nD) npD (f1.trans f') (g2' ▸ s') ⟨acc, hD, ?_, rl⟩⟩
        rw [hl]
        exact le1000 hfew
section
variable {X : Cx} {elt tg iter tg1 iter1 : Expr} {ifs ifs1 : List Expr} {scope : Scope} {own : List (Str × Nat)} {vs1 : List Nat} {pos : Pos} {wi wi1 : TI} {g g1 : TG} {tt tt1 : TT} {te : TE} {mi mi1 : ML} {ix ix1 : List Nat} {b b1 : MG} {c c1 : MT} {m : M}
theorem pn_lc2 (hc : X.calm = true) (hN : X.N.Nodup) (ok : BlkOk X.N X.env.scope scope own) (hi : PDI X tg iter wi mi)
    (hg : ∀ (s : Shared) (H : Hp) (C : Addr) (cl : List (Str × Addr)) (fp : List Addr), PDG (X.blk s H scope (compEnvC scope cl C X.env) fp) tg g ix b) (ht : ∀ (s : Shared) (H : Hp) (C : Addr) (cl : List (Str × Addr)) (fp : List Addr), PDTs (X.blk s H scope (compEnvC scope cl C X.env) fp) ifs tt c)
    (hi1 : ∀ (s : Shared) (H : Hp) (C : Addr) (cl : List (Str × Addr)) (fp : List Addr), PDF (X.blk s H scope (compEnvC scope cl C X.env) fp) tg1 iter1 wi1 mi1)
    (hg1 : ∀ (s : Shared) (H : Hp) (C : Addr) (cl : List (Str × Addr)) (fp : List Addr), PDG (X.blk s H scope (compEnvC scope cl C X.env) fp) tg1 g1 ix1 b1) (ht1 : ∀ (s : Shared) (H : Hp) (C : Addr) (cl : List (Str × Addr)) (fp : List Addr), PDTs (X.blk s H scope (compEnvC scope cl C X.env) fp) ifs1 tt1 c1)
    (he : ∀ (s : Shared) (H : Hp) (C : Addr) (cl : List (Str × Addr)) (fp : List Addr), PDE (X.blk s H scope (compEnvC scope cl C X.env) fp) elt te m) (hix : (ix.all fun i => decide (i ∈ own.map (·.2))) = true := by decide) (hix1 : (ix1.all fun i => decide (i ∈ vs1)) = true := by decide) (hv : (vs1.all fun i => decide (i ∈ own.map (·.2))) = true := by decide)
    (hs : ∀ x, foldedSetIterable iter X.env x = pure x := by intro _; rfl) (hs1 : ∀ env x, foldedSetIterable iter1 env x = pure x := by intro _ _; rfl) :
    PDN X (.ListComp elt [⟨tg, iter, ifs, 0⟩, ⟨tg1, iter1, ifs1, 0⟩] scope pos) (tLc2 wi g tt wi1 g1 tt1 te (own.map (·.2)) vs1) (mLc2 mi b c mi1 b1 c1 m (own.map (·.2)) vs1) :=
  ⟨pe_lc2 hc hN hi.pi ok (fun i h => of_decide_eq_true (List.all_eq_true.mp hv i h)) (fun s H C cl fp => (hg s H C cl fp).pg) (fun s H C cl fp => (ht s H C cl fp).pt) (fun s H C cl fp => (hi1 s H C cl fp).pi) (fun s H C cl fp => (hg1 s H C cl fp).pg) (fun s H C cl fp => (ht1 s H C cl fp).pt) (fun s H C cl fp => (he s H C cl fp).pe) hs hs1,
   sn_lc2 hi.sem (hg X.s_0 X.H_0 0 [] []).sem (ht X.s_0 X.H_0 0 [] []).sem (hi1 X.s_0 X.H_0 0 [] []).sem (hg1 X.s_0 X.H_0 0 [] []).sem (ht1 X.s_0 X.H_0 0 [] []).sem (he X.s_0 X.H_0 0 [] []).sem (fun i h => of_decide_eq_true (List.all_eq_true.mp hix i h)) fun i h => of_decide_eq_true (List.all_eq_true.mp hix1 i h)⟩
end
/-! ### [::-1] -/
theorem fm_congr {α β : Type} {f g : α → Option β} : ∀ {l : List α}, (∀ a ∈ l, f a = g a) → l.filterMap f = l.filterMap g
  | [], _ => rfl
  | a :: l, h => by rw [List.filterMap_cons, List.filterMap_cons, h a List.mem_cons_self, fm_congr fun b hb => h b (List.mem_cons_of_mem _ hb)]
theorem rev_pick {α : Type} (xs : Array α) : (List.range xs.size).filterMap (fun k : Nat => xs[((xs.size : Int) - 1 + (k : Int) * -1).toNat]?) = xs.toList.reverse := by
  have e : (List.range xs.size).filterMap (fun k : Nat => xs[((xs.size : Int) - 1 + (k : Int) * -1).toNat]?) = (List.range xs.size).filterMap ((xs[·]?) ∘ fun k => xs.size - 1 - k) := by
    refine fm_congr fun k hk => ?_
    have := List.mem_range.mp hk
    show xs[_]? = xs[xs.size - 1 - k]?
    congr 1
    omega
  rw [e, ← List.filterMap_map, PySem.W.krv_range, List.filterMap_reverse, PySem.W.krv_all]
section
variable {prog : Program} {w : World} {A : Around} {E : Value → Shared → Prop} {s : Shared}
theorem sliceApplied_back {sl : Addr} {vs : Value} {n : Nat} {Q : Int × Int × Nat → Shared → Prop} (hs : s.heap.IsSliceOf sl .none .none vs) (ps : IsPart vs (some (-1)))
    (h : Q ((n : Int) - 1, -1, n) s) : wpAny (model prog w) A (Builtin.Slice.sliceApplied (.ref sl) (pure (n : Int))) Q E s := by
  obtain ⟨os, hos, hcs, hds⟩ := id hs
  unfold Builtin.Slice.sliceApplied Builtin.Slice.sliceFields
  refine wpAny_bind (wpAny_bind (wpAny_field hos hds (x := .none) rfl (wpAny_bind (wpAny_field hos hds (x := .none) rfl (wpAny_bind (wpAny_field hos hds (x := vs) rfl (wpAny_pure ?_)))))))
  refine wpAny_bind (HT.slicePart_ ps ?_)
  show wpAny _ _ (if ((-1 : Int) == 0) = true then _ else _) _ _ s
  rw [if_neg (by decide)]
  refine wpAny_bind (slicePart_none (wpAny_bind (slicePart_none (wpAny_bind (wpAny_pure ?_)))))
  have e1 : Builtin.Slice.sliceAdjust none none (-1) (n : Int) = ((n : Int) - 1, -1) := by simp [Builtin.Slice.sliceAdjust]
  show wpAny _ _ (match Builtin.Slice.sliceAdjust none none (-1) (n : Int) with | (lo, hi) => pure (lo, (-1 : Int), Builtin.Slice.slicePlaces lo hi (-1))) _ _ s
  rw [e1]
  have e2 : Builtin.Slice.slicePlaces ((n : Int) - 1) (-1) (-1) = n := by
    unfold Builtin.Slice.slicePlaces
    have h0 : ¬ ((-1 : Int) > 0) := by decide
    simp only [h0, if_false]
    have e : (- -1 : Int) = 1 := by decide
    rw [e, Int.ediv_one]
    split <;> omega
  show wpAny _ _ (pure ((n : Int) - 1, (-1 : Int), Builtin.Slice.slicePlaces ((n : Int) - 1) (-1) (-1))) _ _ s
  rw [e2]
  exact wpAny_pure h
theorem getItem_tuple_back {t sl : Addr} {items : Array Value} {vs : Value} {Q : Value → Shared → Prop} (ht : IsTup s.heap t items) (hs : s.heap.IsSliceOf sl .none .none vs) (ps : IsPart vs (some (-1)))
    (h : Q (.ref s.heap.objs.size) { s with heap := s.heap.push { cls := .type "tuple", data := .seq items.toList.reverse.toArray } })
    (hsz : items.size ≤ sizeLine) : wpAny (model prog w) A (getItem (.ref t) (.ref sl)) Q E s := by
  have hfit : sizeOk (.seq items.toList.reverse.toArray) := by
    show items.toList.reverse.toArray.size ≤ sizeLine
    rw [List.size_toArray, List.length_reverse, Array.length_toList]
    exact hsz
  obtain ⟨os, hos, hcs, hds⟩ := id hs
  have hTs : s.TypeIs (.ref sl) "slice" := ⟨os, hos, hcs⟩
  unfold getItem
  try with_reducible refine wpAny_holding ?_
  first | refine wpAny_bind (wpAny_pure ?_) | skip
  refine wpAny_bind (wpAny_sequenceKey ht.typeIs (by decide) ?_)
  refine wpAny_bind (wpAny_callSpecial?_slot (name := Str.ofString "__getitem__") ht.typeIs PyProof.Rows.slot_tuple_getitem
    (wpAny_call_entry PyProof.Rows.slot_tuple_getitem ht.typeIs entry_tuple_getitem ?_ (args_tuple_getitem _ _)))
  show wpAny _ _ (Builtin.Tuple.tupleItemsOf (.ref t) >>= _) _ _ s
  refine wpAny_bind (tupleItemsOf_ ht ?_)
  refine wpAny_bind (wpAny_typeOf hTs ?_)
  rw [if_pos (by decide)]
  refine wpAny_bind (sliceApplied_back hs ps ?_)
  show wpAny _ _ (if ((items.size : Int) - 1 == 0 && (-1 : Int) == 1 && items.size == items.size) = true then _ else _) _ _ s
  have hno : ¬ (((items.size : Int) - 1 == 0 && (-1 : Int) == 1 && items.size == items.size) = true) := by
    rw [show ((-1 : Int) == 1) = false from rfl, Bool.and_false, Bool.false_and]
    exact Bool.false_ne_true
  rw [if_neg hno, rev_pick]
  first
    | exact wpAny_bind (m := Builtin.Tuple.tupleExact _) (wpAny_newObj_type (wpAny_pure ⟨_, rfl, wpAny_pure h⟩) hfit)
    | exact wpAny_bind (m := Builtin.Tuple.tupleExact _) (wpAny_newObj_type (wpAny_bind (wpAny_pure (wpAny_pure ⟨_, rfl, wpAny_pure h⟩))) hfit)
    | exact wpAny_bind (wpAny_bind (m := Builtin.Tuple.tupleExact _) (wpAny_newObj_type (wpAny_pure (wpAny_pure ⟨_, rfl, wpAny_pure h⟩)) hfit))
    | exact wpAny_bind (wpAny_bind (m := Builtin.Tuple.tupleExact _) (wpAny_newObj_type (wpAny_pure ⟨_, rfl, wpAny_pure h⟩) hfit))
end
def revS (x : Str) : Str := ⟨x.cps.toList.reverse.toArray⟩
theorem revS_length (x : Str) : (revS x).length = x.length := by
  show x.cps.toList.reverse.toArray.size = x.cps.size
  rw [List.size_toArray, List.length_reverse, Array.length_toList]
def tBack (K : PySem.W.Frag) (te : TE) : TE := fun σ H Q => te σ H fun x H1 => (∃ a xs, x = .ref a ∧ SqL K H1 a xs ∧ ∀ p, H1 p = none → Q (.ref p) (upd H1 p (.lst xs.reverse))) ∨
  (∃ a xs, x = .ref a ∧ SqT K H1 a xs ∧ ∀ (p : Addr) (ob : Obj), H1 p = none → ob.dict = none → Q (.ref p) (upd H1 p (.frz ob (.tup xs.reverse)))) ∨ (∃ z : Str, x = .str z ∧ z.length ≤ sizeLine ∧ Q (.str (revS z)) H1)
theorem pe_back {X : Cx} {e : Expr} {te : TE} {k : Nat} {p1 p2 p3 pos : Pos} (he : PE X e te) : PE X (.Subscript e (.Slice none none (some (.UnaryOp .USub (.Constant (.int 1) k p1) p2)) p3) pos) (tBack X.K te) := by
  refine ⟨fun pins s σ H Q I h => ?_⟩
  refine Subscript_ (thn (he.run pins s σ H _ I h) fun v s1 ⟨x, H1, I1, r1, q1⟩ => ?_)
  have hst : PO X (some (.UnaryOp .USub (.Constant (.int 1) k p1) p2)) (tPart (tUn (rU fun i => .int (-i)) (tC (.int 1)))) := po_some (pe_un un_neg pe_int)
  refine wpAny_Slice (thn (po_none.run pins s1 σ H1 (fun o H2 => o = none ∧ H2 = H1) I1 ⟨rfl, rfl⟩) fun vl s2 ⟨l, H2, I2, pl, el, e2⟩ => ?_)
  subst el e2
  refine thn (po_none.run pins s2 σ H2 (fun o H3 => o = none ∧ H3 = H2) I2 ⟨rfl, rfl⟩) fun vu s3 ⟨u, H3, I3, pu, eu, e3⟩ => ?_
  subst eu e3
  refine thn (hst.run pins s3 σ H3 (fun o H4 => o = some (-1) ∧ H4 = H3) I3 ⟨1, rfl, -1, rfl, rfl, rfl⟩) fun vs s4 ⟨o, H4, I4, ps, eo, e4⟩ => ?_
  subst eo e4
  have I5 : Inv X pins σ H4 { s4 with heap := s4.heap.push { cls := .type "slice", data := .fields #[vl, vu, vs] } } := I4.kept (t' := s4.toks) fun b ob q => Heap.get?_push_of_some _ q
  show wpAny (model X.prog X.w) X.A (subscriptTail e (.Slice none none (some (.UnaryOp .USub (.Constant (.int 1) k p1) p2)) p3) v (.ref s4.heap.objs.size)) (EP X pins σ Q) X.xe { s4 with heap := s4.heap.push { cls := .type "slice", data := .fields #[vl, vu, vs] } }
  cases pl
  cases pu
  rcases q1 with ⟨a, xs, ex, hx, q⟩ | ⟨a, xs, ex, hx, q⟩ | ⟨z, ex, hz, q⟩
  · subst ex
    cases r1
    obtain ⟨its, r, ht, hz⟩ := I5.list hx
    have hlen := r.length
    refine tail_any (ops := [.ref a, .ref s4.heap.objs.size]) ht.isList.typeIs (PySem.slot_list_getitem.lookup) ?_ (by with_unfolding_all rfl)
    refine wpAny_getItem_list_slice ht.isList (Heap.IsSliceOf.new _ .none .none vs) .none .none ps (by decide) ?_ (by rw [List.size_toArray]; omega)
    rw [PySem.W.krv_pick]
    refine ⟨.ref _, _, I5.laid (t' := s4.toks) (o := .lst xs.reverse) (fun b ob q => Heap.get?_push_of_some _ q) (Nat.le_refl _) ?_, rfl, q _ (I5.hok.fresh (Nat.le_refl _))⟩
    exact ⟨by rw [List.length_reverse]; exact hz, _, 0, r.reverse, Heap.get?_push_size _ rfl⟩
  · subst ex
    cases r1
    obtain ⟨its, r, ht, hz⟩ := I5.tuple hx
    have hlen := r.length
    refine tail_any (ops := [.ref a, .ref s4.heap.objs.size]) ht.typeIs (PyProof.Rows.slot_tuple_getitem.lookup) ?_ (by with_unfolding_all rfl)
    refine getItem_tuple_back ht (Heap.IsSliceOf.new _ .none .none vs) ps ?_ (by rw [List.size_toArray]; omega)
    exact laid_tupF I5 r.reverse (by rw [List.length_reverse]; exact hz) q
  · subst ex
    obtain ⟨t, rfl⟩ := r1
    refine tail_any (ops := [.str z t, .ref s4.heap.objs.size]) (typeIs_str _ _ _) (F.slot_str_getitem.lookup) ?_ (by with_unfolding_all rfl)
    cases ps with
    | int _ t' =>
    have hsl : Heap.IsSlice (s4.heap.push { cls := .type "slice", data := .fields #[.none, .none, .int (-1) t'] }) s4.heap.objs.size none none (some (-1, t')) := ⟨_, Heap.get?_push_size _ rfl, rfl, rfl⟩
    refine wpAny_getItem_str_slice hsl rfl ?_
    have em : sliceMade z t none none (some ((-1 : Int), t')) = Made.str (revS z) := by
      unfold sliceMade slicePicked
      have h1 : ¬ (((((some ((-1 : Int), t')).map (·.1)).getD 1 == 1) && ((Builtin.Str.strSliceIndices ((none : Option (Int × Tok)).map (·.1)) ((none : Option (Int × Tok)).map (·.1)) (((some ((-1 : Int), t')).map (·.1)).getD 1) z.length).length == z.length)) = true) := by
        rw [show (((some ((-1 : Int), t')).map (·.1)).getD 1 == 1) = false from rfl, Bool.false_and]
        exact Bool.false_ne_true
      rw [if_neg h1]
      show Made.str ⟨((Builtin.Str.strSliceIndices none none (-1) z.cps.size).filterMap (z.cps[·]?)).toArray⟩ = _
      rw [picked_rev, PySem.W.krv_range, List.filterMap_reverse]
      have : (List.range z.cps.size).filterMap (z.cps[·]?) = z.cps.toList := by
        apply List.ext_getElem?
        intro i
        have e : (fun k : Nat => z.cps[k]?) = fun k => z.cps.toList[k]? := by funext k; rw [Array.getElem?_toList]
        rw [e]
        have hh : (List.range z.cps.toList.length).filterMap (fun k => z.cps.toList[k]?) = z.cps.toList := by
          generalize z.cps.toList = l
          induction l with
          | nil => rfl
          | cons c l ih =>
            rw [List.length_cons, List.range_succ_eq_map, List.filterMap_cons]
            simp only [List.getElem?_cons_zero, List.filterMap_map]
            congr 1
        rw [Array.length_toList] at hh
        rw [hh]
      rw [this]
      rfl
    rw [em]
    exact ⟨by rw [revS_length]; exact hz, .str _, H4, I5.tok _, ⟨_, rfl⟩, q⟩
def gRev : Dat → Option Dat
  | .lst ds => some (.lst ds.reverse)
  | .tup ds => some (.tup ds.reverse)
  | .str x => some (.str (revS x))
  | _ => none
def mRev (a : M) : M := fun env S => (a env S).bind fun x => (gRev x.1).map fun w => (w, x.2)
theorem se_rev {K : PySem.W.Frag} {te : TE} {a : M} (ha : SB te a) : SE (tBack K te) (mRev a) := by
  intro O P σ H env S r Q I e q
  unfold mRev at e
  cases ea : a env S with
  | none => rw [ea] at e; cases e
  | some x =>
    rw [ea] at e
    simp only [Option.bind_some] at e
    cases eg : gRev x.1 with
    | none => rw [eg] at e; cases e
    | some w =>
      rw [eg] at e
      cases e
      refine ha O P σ H env S x _ I ea fun v H1 f1 s1 rx => ?_
      have I1 := I.fr f1 s1
      unfold gRev at eg
      split at eg
      · rename_i ds hd
        rw [hd] at rx
        cases eg
        obtain ⟨b, vs, rfl, hb, hz, lb, _⟩ := rx.lst I.ops
        exact .inl ⟨b, vs, rfl, SqL.of hb, fun p n => q _ _ (f1.trans (.new n)) (s1.new n) (.lst upd_same (not_own I1.hi n) (by rw [List.length_reverse]; exact hz) (repL_new lb.rev n))⟩
      · rename_i ds hd
        rw [hd] at rx
        cases eg
        obtain ⟨b, vs, rfl, hb, hz, lb, nb⟩ := rx.tup
        exact .inr (.inl ⟨b, vs, rfl, hb.sq, fun p ob n d => q _ _ (f1.trans (.new n)) (s1.new n) (.tup (.new d) (not_own I1.hi n) (by rw [List.length_reverse]; exact hz) (repL_new lb.rev n))⟩)
      · rename_i t hd
        rw [hd] at rx
        cases eg
        obtain ⟨rfl, hz⟩ := rx.str
        exact .inr (.inr ⟨_, rfl, hz, q _ _ f1 s1 (.str _ (by rw [revS_length]; exact hz))⟩)
      · cases eg
theorem pd_rev {X : Cx} {e : Expr} {te : TE} {a : M} {k : Nat} {p1 p2 p3 pos : Pos} (he : PDB X e te a) :
    PDE X (.Subscript e (.Slice none none (some (.UnaryOp .USub (.Constant (.int 1) k p1) p2)) p3) pos) (tBack X.K te) (mRev a) := ⟨pe_back he.pe, se_rev he.sem⟩
/-! ### a text repeated -/
theorem mulOk_few {x : Str} {n : Int} (hx : x.length ≤ 1000) (h1 : -1000 ≤ n) (h2 : n ≤ 1000) : MulOk x n := by
  refine ⟨?_, fun h _ => ?_, fun h _ => ?_⟩
  · rw [Bool.or_eq_false_iff]
    exact ⟨decide_eq_false (by omega), decide_eq_false (by omega)⟩
  · have hm : (x.length : Int) * n ≤ 1000 * n := Int.mul_le_mul_of_nonneg_right (by omega) (by omega)
    have : (x.length : Int) ≤ (2 ^ 63 - 1) / n := (Int.le_ediv_iff_mul_le (by omega)).mpr (by omega)
    omega
  · have hm : x.length * n.toNat ≤ 1000 * 1000 := Nat.mul_le_mul hx (by omega)
    have hs : (1000000 : Nat) ≤ sizeLine := by decide
    unfold Builtin.Str.tooLong
    exact decide_eq_false (by omega)
def rMulS : R2 := fun x y H Q => ∃ z n, x = .str z ∧ y = .int n ∧ z.length ≤ 1000 ∧ -1000 ≤ n ∧ n ≤ 1000 ∧ Q (.str (Txt.mul z n)) H
theorem op_mulS {X : Cx} : OpR X (binaryOp .Mult) rMulS := by
  intro pins s σ H x y v u Q I rx ry h
  obtain ⟨z, n, rfl, rfl, hz, h1, h2, q⟩ := h
  obtain ⟨t, rfl⟩ := rx
  obtain ⟨t', rfl⟩ := ry
  exact SB.mul (mulOk_few hz h1 h2) fun t2 k => ⟨.str _, H, I.tok _, ⟨_, rfl⟩, q⟩
def gMulS : Dat → Dat → Option Dat
  | .str x, .int n => if x.length ≤ 1000 ∧ -1000 ≤ n ∧ n ≤ 1000 then some (.str (Txt.mul x n)) else none
  | _, _ => none
theorem r2_mulS : R2S rMulS gMulS := by
  intro O P H S x y d e z Q I rx ry eg q
  unfold gMulS at eg
  split at eg
  · split at eg
    · rename_i h
      cases eg
      obtain ⟨rfl, _⟩ := rx.str
      cases ry.int
      exact ⟨_, _, rfl, rfl, h.1, h.2.1, h.2.2, q _ H .refl I.sm (.str _ (Nat.le_trans (len_mul_leN (N := 1000) h.1 h.2.2) (by decide)))⟩
    · cases eg
  · cases eg
def gMul : Dat → Dat → Option Dat := gOr (gI cMul fun i j => .int (i * j)) gMulS
theorem po_mul {X : Cx} : PDO X (binaryOp .Mult) (rOr (rI CMul fun i j => .int (i * j)) rMulS) gMul := PDO.or po_mulI ⟨op_mulS, r2_mulS⟩
end PD

namespace PD
open PySem PySem.Spec PyProof.Rows L2
section
variable {X : Cx}
theorem po_eqK {k : Nat} (hr : Room k X.A) {K : PySem.W.Frag} (hK : X.K = K := by rfl) : PDO X (compareOp .Eq) (rEqD K) (gEq false) := by
  subst hK
  exact po_eq hr
end
section
variable {X : Cx}
theorem po_neK {k : Nat} (hr : Room k X.A) {K : PySem.W.Frag} (hK : X.K = K := by rfl) : PDO X (compareOp .NotEq) (rNeD K) (gEq true) := by
  subst hK
  exact po_ne hr
end
section
variable {X : Cx} {pos : Pos} {a b c : Expr} {rest : List Expr} {ta tb tc : TE} {ma mb mc : M} {r r' : R2} {g g' : Dat → Dat → Option Dat} {tA tB : TT} {mA mB : MT}
theorem pt_truK (ha : PDB X a ta ma) (he : ∀ whole, isTrue a X.env whole = (do let v ← whole; standAt a.pos; holding [v] (truthy v)) := by intro _; rfl) {K : PySem.W.Frag} (hK : X.K = K := by rfl) : PDT X a (fun σ H Q => ta σ H fun x H' => ∃ k, TruV K x H' k ∧ Q k H') (mTru ma) := by
  subst hK
  exact pt_tru ha he
end
section
variable {X : Cx} {pos : Pos} {a b c : Expr} {rest : List Expr} {ta tb tc : TE} {ma mb mc : M} {r r' : R2} {g g' : Dat → Dat → Option Dat} {tA tB : TT} {mA mB : MT}
theorem pd_notK (h : PDB X a ta ma) {K : PySem.W.Frag} (hK : X.K = K := by rfl) : PDE X (.UnaryOp .Not a pos) (tNotT K ta) (mNotV ma) := by
  subst hK
  exact pd_not h
end
section
variable {X : Cx} {a b : Expr} {ta tb : TE} {ma mb : M} {pos : Pos}
theorem pd_ixK (ha : PDB X a ta ma) (hb : PDB X b tb mb) (hs : PlainIx b := by exact fun _ _ => rfl) {K : PySem.W.Frag} (hK : X.K = K := by rfl) : PDE X (.Subscript a b pos) (tOp (rIx K) ta tb) (m2 gIx ma mb) := by
  subst hK
  exact pd_ix ha hb hs
end
section
theorem pd_sliceK {X : Cx} {e : Expr} {lo hi : Option Expr} {te : TE} {tl th : TO} {a : M} {l h : MO} {pos p2 : Pos} (he : PDB X e te a) (hl : PDP X lo tl l) (hh : PDP X hi th h) {K : PySem.W.Frag} (hK : X.K = K := by rfl) : PDE X (.Subscript e (.Slice lo hi none p2) pos) (tSl (rSlD K) te tl th) (mSl a l h) := by
  subst hK
  exact pd_slice he hl hh
end
section
variable {X : Cx}
theorem po_inK {k : Nat} (hr : Room k X.A) {K : PySem.W.Frag} (hK : X.K = K := by rfl) : PDO X (compareOp .In) (rInA K false) gIn := by
  subst hK
  exact po_in hr
end
section
variable {X : Cx}
theorem po_notinK {k : Nat} (hr : Room k X.A) {K : PySem.W.Frag} (hK : X.K = K := by rfl) : PDO X (compareOp .NotIn) (rInA K true) gNotIn := by
  subst hK
  exact po_notin hr
end
section
theorem pd_isiK {X : Cx} {T : String} {n : Str} {e : Expr} {te : TE} {a : M} {p p2 pos : Pos} (h : PDB X e te a) (hg : Gl X "isinstance") (hm : X.mg "isinstance" = none) (hg2 : Gl X n) (hm2 : X.mg n = none) (hv2 : bootBuiltins n = some (.type T)) (hv : bootBuiltins "isinstance" = some (.builtin "isinstance")) (hn : n ≠ "__name__" := by decide) (hd : (n == ("__debug__" : Str)) = false := by decide) (hs : starEach (e :: [.Name n p2]) X.env = (false, eval e X.env) :: starEach [.Name n p2] X.env := by rfl) (hpl : (backTo pos (starEach [.Name n p2] X.env)).any (·.1) = false := by rfl) {K : PySem.W.Frag} (hK : X.K = K := by rfl) : PDE X (.Call (.Name "isinstance" p) [e, .Name n p2] [] pos) (tCB (rIsi K) (tCons te (tCons (tC (.ty T)) tNil))) (mIs T a) := by
  subst hK
  exact pd_isi h hg hm hg2 hm2 hv2 hv hn hd hs hpl
end
section
variable {X : Cx} {o e : Expr} {es : List Expr} {to : TE} {t : TA} {a : M} {b : ML} {name : Str} {apos cpos : Pos} {id : String} {r : V → List V → Hp → VK → Prop} {g : Str → List Dat → Option Dat}
theorem pd_mK (slot : Slot "str" name id) (hty : typeOf (.builtin id) = pure (.type "method_descriptor")) (hm : MtR X id r) (hs : MS r g) (ho : PDE X o to a) (ha : PDAB X (e :: es) t b) (hbase : attributeBase o name X.env (eval o X.env) = eval o X.env := by rfl) (hfew : ((backTo cpos (starEach (e :: es) X.env)).all (fun x => !x.1) && (backToKw cpos (keywordEach [] X.env)).all (fun x => x.1.isSome)
      && decide ((e :: es).length + ([] : List Keyword).length + (if ([] : List Keyword).isEmpty then 0 else 1) < 30)) = true := by rfl) (hline : (apos.endLine == cpos.line) = true := by rfl) (hs' : starEach (e :: es) X.env = (false, eval e X.env) :: starEach es X.env := by rfl) (hplain : (backTo cpos (starEach es X.env)).any (·.1) = false := by rfl) {K : PySem.W.Frag} (hK : X.K = K := by rfl) : PDE X (.Call (.Attribute o name apos) (e :: es) [] cpos) (tBM K "str" r to t) (mM g a b) := by
  subst hK
  exact pd_m slot hty hm hs ho ha hbase hfew hline hs' hplain
end
section
variable {X : Cx} {o e : Expr} {es : List Expr} {to : TE} {t : TA} {a : M} {b : ML} {name : Str} {apos cpos : Pos} {id : String} {r : V → List V → Hp → VK → Prop} {g : Str → List Dat → Option Dat}
theorem pd_m0K (slot : Slot "str" name id) (hty : typeOf (.builtin id) = pure (.type "method_descriptor")) (hm : MtR X id r) (hs : MS r g) (ho : PDE X o to a) (hbase : attributeBase o name X.env (eval o X.env) = eval o X.env := by rfl) (hline : (apos.endLine == cpos.line) = true := by rfl) {K : PySem.W.Frag} (hK : X.K = K := by rfl) : PDE X (.Call (.Attribute o name apos) [] [] cpos) (tBM0 K "str" r to) (mM g a mNil) := by
  subst hK
  exact pd_m0 slot hty hm hs ho hbase hline
end
section
variable {X : Cx} {tg e b : Expr} {te tb : TE} {a : M} {ml : ML} {ta : TA} {p p2 pos pos2 : Pos}
theorem pi_anyK (h : PDB X e te a) {K : PySem.W.Frag} (hK : X.K = K := by rfl) : PDI X tg e (iAny K te) (mIt a) := by
  subst hK
  exact pi_any h
end
section
variable {X : Cx} {tg e b : Expr} {te tb : TE} {a : M} {ml : ML} {ta : TA} {p p2 pos pos2 : Pos}
theorem pf_anyK (h : PDE X e te a) {K : PySem.W.Frag} (hK : X.K = K := by rfl) : PDF X tg e (iAny K te) (mIt a) := by
  subst hK
  exact pf_any h
end
section
variable {X : Cx} {pos : Pos} {e : Expr} {es : List Expr} {g : TG} {gs : TGs} {ix ix' : List Nat} {b : MG} {c : MGs}
theorem pdg_tupK {k n : Nat} (hc : X.calm = true) (h : PDGs X es gs ix c) (hn : (assignEach es X.env).length = n := by rfl) (hst : (assignEach es X.env).findIdx? (·.1) = none := by rfl) {K : PySem.W.Frag} (hK : X.K = K := by rfl) : PDG X (.Tuple es k pos) (gTup K n gs) ix (bTup n c) := by
  subst hK
  exact pdg_tup hc h hn hst
end
section
theorem pd_strIK {X : Cx} {x : Str} {j : Int} {px p2 pos : Pos} (i : Nat) {kk} (hN : X.N[i]? = some x := by rfl) (hv : Vis X.env.scope x := by first | exact Or.inl rfl | exact Or.inr (Or.inl rfl) | exact Or.inr (Or.inr rfl)) (hd : (x == ("__debug__" : Str)) = false := by decide) (hcd : (x == ("__classdict__" : Str)) = false := by decide) (hs : PlainIx (.Constant (.int j) kk p2) := by exact fun _ _ => rfl) {K : PySem.W.Frag} (hK : X.K = K := by rfl) : PDE X (.Subscript (.Name x px) (.Constant (.int j) kk p2) pos) (tOp (rIxL K) (tVar i) (tC (.int j))) (mStr i j) := by
  subst hK
  exact pd_strI i hN hv hd hcd hs
end
section
variable {X : Cx} {pos : Pos} {a b : Expr} {ta tb : TE} {ma mb : M}
theorem po_addK  {K : PySem.W.Frag} (hK : X.K = K := by rfl) : PDO X (binaryOp .Add) (rAddA K) gAdd := by
  subst hK
  exact po_add 
end
section
theorem pd_revK {X : Cx} {e : Expr} {te : TE} {a : M} {k : Nat} {p1 p2 p3 pos : Pos} (he : PDB X e te a) {K : PySem.W.Frag} (hK : X.K = K := by rfl) : PDE X (.Subscript e (.Slice none none (some (.UnaryOp .USub (.Constant (.int 1) k p1) p2)) p3) pos) (tBack K te) (mRev a) := by
  subst hK
  exact pd_rev he
end
section
theorem pn_sortSetK {X : Cx} {e : Expr} {te : TE} {a : M} {p p2 pos pos2 : Pos} (hc : X.calm = true) (hg : Gl X "sorted") (hm : X.mg "sorted" = none) (hg2 : Gl X "set") (hm2 : X.mg "set" = none) (h : PDB X e te a) (na : starEach [e] X.env = (false, eval e X.env) :: starEach [] X.env := by rfl) (nb : starEach [(.Call (.Name "set" p2) [e] [] pos2 : Expr)] X.env = (false, eval (.Call (.Name "set" p2) [e] [] pos2) X.env) :: starEach [] X.env := by rfl) (pa' : (backTo pos2 (starEach [] X.env)).any (·.1) = false := by rfl) (pb : (backTo pos (starEach [] X.env)).any (·.1) = false := by rfl) {K : PySem.W.Frag} {w : World} (hw : X.w = w := by rfl) (hK : X.K = K := by rfl) : PDN X (.Call (.Name "sorted" p) [.Call (.Name "set" p2) [e] [] pos2] [] pos) (tCB (rSortSet w) (tCons (tCB (rSetS K w) (tCons te tNil)) tNil)) (mSortSet a) := by
  subst hK hw
  exact pn_sortSet hc hg hm hg2 hm2 h na nb pa' pb
end
section
theorem cr_sortAK {X : Cx} {k : Nat} (hr : Room k X.A) {K : PySem.W.Frag} (hK : X.K = K := by rfl) : CallR X (.builtin "sorted") (rSortA K) := by
  subst hK
  exact cr_sortA hr
end
section
theorem call_listAK {X : Cx} (hc : X.calm = true) {K : PySem.W.Frag} (hK : X.K = K := by rfl) : CallR X (.type "list") (rListA K) := by
  subst hK
  exact call_listA hc
end
section
theorem call_tupAK {X : Cx} (hc : X.calm = true) {K : PySem.W.Frag} (hK : X.K = K := by rfl) : CallR X (.type "tuple") (rTupF K) := by
  subst hK
  exact call_tupA hc
end
end PD

namespace PD
open PySem PySem.Spec PyProof.Rows L2
/-! ### endswith within bounds -/
def ends4 (x y : Str) (i j : Int) : Bool := fromIndex x.length i + y.length ≤ min (fromIndex x.length j) x.length && Builtin.Str.subAt x y (min (fromIndex x.length j) x.length - y.length)
theorem gives_ends4 (x y : Str) (i j : Int) (t u v z : Tok) : Gives (Builtin.«str.endswith» ⟨[.str x t, .str y u, .int i v, .int j z], []⟩) (.val (.bool (ends4 x y i j))) := .of_eq rfl
def rEnds : V → List V → Hp → VK → Prop := fun x xs H Q => (∃ a b, x = .str a ∧ xs = [.str b] ∧ Q (.bl (Txt.endswith a b)) H) ∨ ∃ (a b : Str) (i j : Int), x = .str a ∧ xs = [.str b, .int i, .int j] ∧ Q (.bl (ends4 a b i j)) H
theorem mt_ends {X : Cx} : MtR X "str.endswith" rEnds :=
  mt_endswith.or (mt1II (g := fun a b i j => .bl (ends4 a b i j)) fun a b i j t u z y s Q h => call_gives PySem.F.slot_str_endswith (typeIs_str _ _ _) PySem.F.entry_str_endswith (PySem.F.args_str_endswith_4 _ _ _ _) (gives_ends4 a b i j t u z y) (h _ s.toks rfl))
def gEnds : Str → List Dat → Option Dat
  | a, [.str b] => some (.bl (Txt.endswith a b))
  | a, [.str b, .int i, .int j] => some (.bl (ends4 a b i j))
  | _, _ => none
theorem ms_ends : MS rEnds gEnds := by
  intro O P H S x vs ds z Q I hl rs eg q
  unfold gEnds at eg
  split at eg
  · cases eg
    cases rs with
    | cons r rs =>
      cases rs
      obtain ⟨rfl, _⟩ := r.str
      exact .inl ⟨_, _, rfl, rfl, q _ H .refl I.sm (.bl _)⟩
  · cases eg
    cases rs with
    | cons r rs => cases rs with
      | cons r2 rs => cases rs with
        | cons r3 rs =>
          cases rs
          obtain ⟨rfl, _⟩ := r.str
          cases r2.int
          cases r3.int
          exact .inr ⟨_, _, _, _, rfl, rfl, q _ H .refl I.sm (.bl _)⟩
  · cases eg
end PD

namespace PD
open PySem PySem.Spec PyProof.Rows L2
/-! ### sorted(texts, key=len) -/
/-- a new object at D; all else is kept but the object of the locals, and these read the same -/
theorem inv_again {X : Cx} {pins : List (Addr × Obj)} {σ : L2.St} {H : Hp} {s : Shared} {h' : Heap} {t' : Nat} {m : Str → Option Value} {D : Addr} {w : HO} (I : Inv X pins σ H s) (hn : h'.Ns X.env.locals m)
    (hl : ∀ (i : Nat) (x : Str) (v : V), X.N[i]? = some x → σ[i]? = some (some v) → Vis X.env.scope x → ∃ u, RelV v u ∧ Look X.env s.heap m x u)
    (k : ∀ b o, b ≠ X.env.locals → s.heap.get? b = some o → h'.get? b = some o) (hp : s.heap.objs.size ≤ D) (new : ObjOk X.prog X.w (upd H D w) h' D w) : Inv X pins σ (upd H D w) { s with heap := h', toks := t' } := by
  have cell : ∀ {c v}, c ≠ X.env.locals → s.heap.IsCell c v → h'.IsCell c v := fun {c v} ne z => let ⟨o, ho, hd⟩ := z; ⟨o, k c o ne ho, hd⟩
  have old : ∀ {b : Addr} {o : Obj}, X.s_0.heap.get? b = some o → b ≠ X.env.locals := fun e => Nat.ne_of_lt (Nat.lt_of_lt_of_le (Heap.lt_size e) I.ok.above)
  have hD : H D = none := I.hok.fresh hp
  have lt : ∀ {b : Addr}, b < s.heap.objs.size → b ≠ D := fun h => Nat.ne_of_lt (Nat.lt_of_lt_of_le h hp)
  refine ⟨I.ok, I.os, I.bare, ⟨fun b o e n hb hx => k b o (old e) (I.base.keep b o e n hb hx), fun b o e n hb hx => let ⟨sl, e1⟩ := I.base.slot b o e n hb hx; ⟨sl, k b _ (old e) e1⟩,
      fun b o e n hx => (upd_ne (lt (Nat.lt_of_lt_of_le (Heap.lt_size e) I.sz))).trans (I.base.free b o e n hx), fun b o e hx => let ⟨o', e1⟩ := I.base.there b o e hx; ⟨o', k b o' (old e) e1⟩,
      fun b xs q => (upd_ne (ne_of_none (I.base.tups b xs q) hD)).trans (I.base.tups b xs q), fun b o u q => (upd_ne (ne_of_none (I.base.frzs b o u q) hD)).trans (I.base.frzs b o u q),
      fun b ps q => let ⟨more, e⟩ := I.base.tbls b ps q; ⟨more, (upd_ne (ne_of_none e hD)).trans e⟩⟩,
    ⟨m, hn, fun j y v e1 e2 e3 => ?_⟩, fun y c e => let ⟨w', z⟩ := I.cell y c e; ⟨w', cell (I.cne y c e) z⟩, (upd_ne (lt I.lt)).trans I.free, fun y c e => ?_, fun p hp' => ?_, fun b ob e => ?_, I.len⟩
  · obtain ⟨u, r, q⟩ := hl j y v e1 e2 e3
    refine ⟨u, r, ?_⟩
    rcases q with q | ⟨kk, c, e, z⟩
    · exact .inl q
    · exact .inr ⟨kk, c, e, cell (I.cne y c e) z⟩
  · obtain ⟨w', o, ho, _⟩ := I.cell y c e
    exact (upd_ne (lt (Heap.lt_size ho))).trans (I.freeC y c e)
  · obtain ⟨e, n, ne, nf, d⟩ := I.pin p hp'
    exact ⟨k p.1 _ ne e, (upd_ne (lt (Heap.lt_size e))).trans n, ne, nf, d⟩
  · by_cases hb : b = D
    · subst hb
      rw [upd_same] at e
      cases e
      exact new
    · rw [upd_ne hb] at e
      refine (I.hok b ob e).stay (fun c w' hc q => k c w' ?_ q) (fun c q => (upd_ne (ne_of_none q hD)).trans q) fun c xs q => (upd_ne (ne_of_none q hD)).trans q
      rintro rfl
      rcases hc with rfl | hc
      · rw [I.free] at e; cases e
      · rw [I.free] at hc; cases hc
def sortLen (xs : List Str) : List Str := xs.mergeSort (PySem.W.dataLe false fun x : Str => PyData.int x.length)
theorem strs_each : ∀ {xs : List Str} {us : List Value}, Vals (xs.map V.str) us → PySem.W.EachIs (fun v x => ∃ t, v = Value.str x t) us xs
  | [], _, h => by cases h; exact .nil
  | x :: xs, _, h => by
    cases h with
    | cons r t => exact .cons r (strs_each t)
theorem each_strs : ∀ {us : List Value} {xs : List Str}, PySem.W.EachIs (fun v x => ∃ t, v = Value.str x t) us xs → Vals (xs.map V.str) us
  | _, _, .nil => .nil
  | _, _, .cons r t => .cons r (each_strs t)
theorem call_sortLen {X : Cx} {k : Nat} (hr : Room k X.A) {pins : List (Addr × Obj)} {s : Shared} {σ : L2.St} {H : Hp} {a : Addr} {xs : List Str} {Q : VK} (I : Inv X pins σ H s) (hs : SqL X.K H a (xs.map V.str)) (hz : xs.length ≤ 1000) (hx : ∀ x ∈ xs, x.length ≤ sizeLine)
    (q : ∀ p, H p = none → Q (.ref p) (upd H p (.lst ((sortLen xs).map V.str)))) : wpAny (model X.prog X.w) X.A (call (.builtin "sorted") [.ref a] [(Str.ofString "key", .builtin "len")]) (EP X pins σ Q) X.xe s := by
  obtain ⟨its, rv, pl, _⟩ := I.list hs
  obtain ⟨m, hn0, hl⟩ := id I.loc
  have F : PyProof.Rows.Fr X.base X.env.locals s.heap m := ⟨hn0, I.bk, Nat.le_trans I.ok.bsz I.ok.above⟩
  have hlen : its.length = xs.length := by have := rv.length; rw [List.length_map] at this; exact this.symm
  have big : (1000 : Nat) ≤ sizeLine := by decide
  have he := strs_each rv
  -- all that stands, but the locals and what was there before
  let news : List (Addr × Obj) := (List.range s.heap.objs.size).filterMap fun b => if b = X.env.locals then none else if (X.base.get? b).isSome = true then none else (s.heap.get? b).map fun o => (b, o)
  have N : News X.base X.env.locals s.heap news := fun p hp => by
    obtain ⟨b, hb, e⟩ := List.mem_filterMap.mp hp
    split at e
    · cases e
    · split at e
      · cases e
      · rename_i n1 n2
        obtain ⟨o, ho, rfl⟩ := Option.map_eq_some_iff.mp e
        exact ⟨ho, n1, by simpa using n2⟩
  have inN : ∀ b o, b ≠ X.env.locals → s.heap.get? b = some o → X.base.get? b = none → (b, o) ∈ news := fun b o n e e0 => by
    refine List.mem_filterMap.mpr ⟨b, List.mem_range.mpr (Heap.lt_size e), ?_⟩
    rw [if_neg n, if_neg (by rw [e0]; simp), e]
    rfl
  refine PySem.W.sorted_of_sort pl.isList (by omega) (PyProof.Rows.ksk_s1 _ _) (fun _ => PyProof.Rows.ksk_l1 _ _) fun E' => ?_
  rw [PyProof.Rows.ksk_t4]
  have hL : X.env.locals < s.heap.objs.size := F.ns.lt
  refine PySem.W.key_tree (kz := xs.map fun x => PyData.int x.length) (s := { s with heap := PySem.W.copyHeap s.heap its }) (F.kept fun _ _ => PySem.W.copyHeap_old) (N.grown fun _ _ => PySem.W.copyHeap_old) (PySem.W.copyHeap_at s.heap its) (Nat.ne_of_gt (Nat.lt_succ_of_lt hL)) (Heap.get?_none_of_le (Nat.le_trans F.above (Nat.le_succ_of_le (Nat.le_of_lt hL))))
    (fun p hp => Nat.ne_of_lt (Nat.lt_succ_of_lt (Heap.lt_size (N p hp).1))) (by rw [List.length_map, hlen]) (by omega) (PySem.W.AllAlike.of (enc := fun x : Str => PyData.int x.length) fun _ _ => by simp [PySem.W.alike]) (PySem.W.Sortable.others (enc := fun x : Str => PyData.int x.length) fun _ => ⟨(fun h => by cases h), fun _ h => by cases h⟩)
    (fun d hd => ?_) (fun i v kk hv hk h tk own F' N' => ?_) fun h' tk out c F' N' ko => ?_
  · obtain ⟨x, _, rfl⟩ := List.mem_map.mp hd
    have := hr.un
    show X.A.in1.in1.units + 0 < cLine
    have e : X.A.in1.in1.units = X.A.units + 2 := rfl
    omega
  · obtain ⟨x, t, rfl, hxs, rfl⟩ : ∃ x t, v = Value.str x t ∧ x ∈ xs ∧ kk = PyData.int x.length := by
      rw [List.getElem?_map] at hk
      cases hxi : xs[i]? with
      | none => rw [hxi] at hk; cases hk
      | some x =>
        rw [hxi] at hk
        cases hk
        have hz2 : (v, x) ∈ its.zip xs := List.mem_of_getElem? (i := i) (by rw [List.getElem?_zip_eq_some]; exact ⟨hv, hxi⟩)
        obtain ⟨t, ht⟩ := he.zip _ hz2
        exact ⟨x, t, ht, List.mem_of_getElem? hxi, rfl⟩
    have hf : ¬ (x.length : Int) ≥ 2 ^ 63 := by
      have h1 := hx x hxs
      have h2 : sizeLine < 2 ^ 63 := by decide
      omega
    exact P.len_str hf ⟨h, _, [], rfl, PySem.W.KeyIs.int _ _, (fun p hp => by cases hp), F', by rw [List.append_nil]; exact N'⟩
  · have out_ := PySem.W.keyedOut_each (fun x : Str => PyData.int x.length) ko he
    have vals := each_strs out_
    have fresh : H (s.heap.objs.size + 1) = none := I.hok.fresh (Nat.le_succ _)
    have keep : ∀ b o, b ≠ X.env.locals → s.heap.get? b = some o → h'.get? b = some o := fun b o n e => by
      cases e0 : X.base.get? b with
      | none => exact (N' (b, o) (List.mem_cons_of_mem _ (inN b o n e e0))).1
      | some o0 =>
        have e1 := I.bk b o0 e0
        rw [e] at e1
        cases e1
        exact F'.keep b o e0
    have nD := (N' _ List.mem_cons_self).1
    have hzl : ((sortLen xs).map V.str).length ≤ sizeLine := by
      rw [List.length_map, show (sortLen xs).length = xs.length from (List.mergeSort_perm _ _).length_eq]
      omega
    have I2 : Inv X pins σ (upd H (s.heap.objs.size + 1) (.lst ((sortLen xs).map V.str))) { s with heap := h', toks := tk } := inv_again I F'.ns hl keep (Nat.le_succ _) ⟨hzl, out, c, vals, nD⟩
    exact ⟨rfl, .ref _, _, I2, rfl, q _ fresh⟩
end PD

namespace PD
open PySem PySem.Spec PyProof.Rows L2
def tSortLen (K : PySem.W.Frag) (te : TE) : TE := fun σ H Q => te σ H fun x H1 => ∃ (a : Addr) (xs : List Str), x = V.ref a ∧ SqL K H1 a (xs.map V.str) ∧ xs.length ≤ 1000 ∧ (∀ x ∈ xs, x.length ≤ sizeLine) ∧ ∀ p, H1 p = none → Q (.ref p) (upd H1 p (.lst ((sortLen xs).map V.str)))
theorem pe_sortLen {X : Cx} {k : Nat} {e : Expr} {te : TE} {p p2 kpos pos : Pos} (hr : Room k X.A) (hg : Gl X "sorted") (hm : X.mg "sorted" = none) (hg2 : Gl X "len") (hm2 : X.mg "len" = none) (he : PE X e te)
    (hs : starEach [e] X.env = (false, eval e X.env) :: starEach [] X.env := by rfl)
    (hb : backTo pos (starEach [e] X.env) = (false, eval e X.env) :: backTo pos (starEach [] X.env) := by rfl) (hpl : (backTo pos (starEach [e] X.env)).any (·.1) = false := by rfl) :
    PE X (.Call (.Name "sorted" p) [e] [⟨some "key", .Name "len" p2, kpos⟩] pos) (tSortLen X.K te) := by
  refine ⟨fun pins s σ H Q I h => ?_⟩
  have hv : bootBuiltins ("sorted" : Str) = some (.builtin "sorted") := by decide +kernel
  have hv2 : bootBuiltins ("len" : Str) = some (.builtin "len") := by decide +kernel
  refine wpAny_Call_Name_kw (ld_blt I hg hm hv ?_ (by decide) (by decide))
  have h2 : tCons te tNil σ H (fun vs H1 => match vs with
      | [x] => ∃ (a : Addr) (xs : List Str), x = V.ref a ∧ SqL X.K H1 a (xs.map V.str) ∧ xs.length ≤ 1000 ∧ (∀ x ∈ xs, x.length ≤ sizeLine) ∧ ∀ p, H1 p = none → Q (.ref p) (upd H1 p (.lst ((sortLen xs).map V.str)))
      | _ => False) := h
  refine PyProof.Rows.callWith_kw (thn ((pa_cons he pa_nil hs).run pos pins s σ H _ I h2) fun us s1 ⟨vs, H1, I1, r1, q1⟩ => ?_) hb hpl rfl rfl
  match vs, q1 with
  | [x], q1 =>
  obtain ⟨a, xs, rfl, hS, hz, hx, q⟩ := q1
  rw [Vals.ref1 r1]
  show wpAny _ _ (evalAll ((do let v ← eval (.Name "len" p2) X.env; standAt pos; pure v) :: [])) _ _ _
  refine wpAny_evalAll_cons (wpAny_bind (ld_blt I1 hg2 hm2 hv2 ?_ (by decide) (by decide)))
  refine wpAny_bind (wpAny_standAt (wpAny_pure ?_))
  refine wpAny_evalAll_nil ?_
  exact call_sortLen hr I1 hS hz hx q
def mSortLen (a : M) : M := fun env S => (a env S).bind fun r => match r.1 with
  | .lst ds => (toStrs ds).bind fun xs => if xs.length ≤ 1000 then some (.lst ((sortLen xs).map .str), r.2) else none
  | _ => none
theorem sn_sortLen {K : PySem.W.Frag} {te : TE} {a : M} (h : SB te a) : SN (tSortLen K te) (mSortLen a) := by
  intro O P σ H env S r Q I e q
  unfold mSortLen at e
  cases ea : a env S with
  | none => rw [ea] at e; cases e
  | some x =>
    rw [ea] at e
    simp only [Option.bind_some] at e
    split at e
    · rename_i ds hd
      cases en : toStrs ds with
      | none => rw [en] at e; cases e
      | some xs =>
        rw [en] at e
        simp only [Option.bind_some] at e
        split at e
        · rename_i hz
          cases e
          refine h O P σ H env S x _ I ea fun v H1 f1 s1 rx => ?_
          rw [hd] at rx
          obtain ⟨p, vs, rfl, hp, hz2, l, _⟩ := rx.lst I.ops
          have ev := l.strs en
          subst ev
          refine ⟨p, xs, rfl, SqL.of hp, hz, fun y hy => RepL.strs_len l en y hy, fun p' n => q p' _ (back_none f1 s1 n) (ne_ps s1 n) (f1.trans (.new n)) (s1.new n) ?_⟩
          refine ⟨_, upd_same, ?_, repL_strs _ fun y hy => ?_⟩
          · rw [List.length_map, show (sortLen xs).length = xs.length from (List.mergeSort_perm _ _).length_eq]
            exact le1000 hz
          · exact RepL.strs_len l en y ((List.mergeSort_perm _ _).mem_iff.mp hy)
        · cases e
    · cases e
theorem pn_sortLen {X : Cx} {K : PySem.W.Frag} {k : Nat} {e : Expr} {te : TE} {a : M} {p p2 kpos pos : Pos} (hr : Room k X.A) (hg : Gl X "sorted") (hm : X.mg "sorted" = none) (hg2 : Gl X "len") (hm2 : X.mg "len" = none) (he : PDB X e te a)
    (hs : starEach [e] X.env = (false, eval e X.env) :: starEach [] X.env := by rfl)
    (hb : backTo pos (starEach [e] X.env) = (false, eval e X.env) :: backTo pos (starEach [] X.env) := by rfl) (hpl : (backTo pos (starEach [e] X.env)).any (·.1) = false := by rfl) (hK : X.K = K := by rfl) :
    PDN X (.Call (.Name "sorted" p) [e] [⟨some "key", .Name "len" p2, kpos⟩] pos) (tSortLen K te) (mSortLen a) := by
  subst hK
  exact ⟨pe_sortLen hr hg hm hg2 hm2 he.pe hs hb hpl, sn_sortLen he.sem⟩
end PD

namespace PD
open PySem PySem.Spec PyProof.Rows L2
/-! ### dicts: keys, values -/
def keyD : Key → Dat
  | .inl i => .int i
  | .inr x => .str x
def dKey : Dat → Option Key
  | .int i => some (.inl i)
  | .str x => some (.inr x)
  | _ => none
def valD (kvs : List (Key × Dat)) (k : Key) : Option Dat := (kvs.find? fun kv => decide (kv.1 = k)).map (·.2)
def putD (kvs : List (Key × Dat)) (k : Key) (d : Dat) : List (Key × Dat) :=
  if (kvs.any fun kv => decide (kv.1 = k)) = true then kvs.map (fun kv => if kv.1 = k then (kv.1, d) else kv) else kvs ++ [(k, d)]
theorem valD_pos {p : Key × Dat} {r : List (Key × Dat)} {k : Key} (e : p.1 = k) : valD (p :: r) k = some p.2 := by simp [valD, List.find?_cons, e]
theorem valD_neg {p : Key × Dat} {r : List (Key × Dat)} {k : Key} (e : ¬ p.1 = k) : valD (p :: r) k = valD r k := by simp [valD, List.find?_cons, e]
section
variable {O : Addr → Prop} {ps : Addr} {H : Hp}
theorem RepK.len : ∀ {vs : List (Key × V)} {ds : List (Key × Dat)}, RepK O ps H vs ds → vs.length = ds.length
  | _, _, .nil => rfl
  | _, _, .cons _ l => congrArg (· + 1) (RepK.len l)
theorem RepK.keys : ∀ {vs : List (Key × V)} {ds : List (Key × Dat)}, RepK O ps H vs ds → vs.map (·.1) = ds.map (·.1)
  | _, _, .nil => rfl
  | _, _, .cons _ l => congrArg (_ :: ·) (RepK.keys l)
theorem RepK.some (k : Key) : ∀ {vs : List (Key × V)} {ds : List (Key × Dat)} {d : Dat}, RepK O ps H vs ds → valD ds k = some d → ∃ v, valV vs k = some v ∧ Rep O ps H v d
  | _, _, _, .nil, e => by cases e
  | _, _, _, .cons (k := k1) (v := v) (d := d1) r l, e => by
    by_cases h : k1 = k
    · rw [valD_pos h] at e
      cases e
      exact ⟨v, valV_pos h, r⟩
    · rw [valD_neg h] at e
      obtain ⟨v', e1, r'⟩ := RepK.some k l e
      exact ⟨v', (valV_neg h).trans e1, r'⟩
theorem RepK.none (k : Key) : ∀ {vs : List (Key × V)} {ds : List (Key × Dat)}, RepK O ps H vs ds → valD ds k = none → valV vs k = none
  | _, _, .nil, _ => rfl
  | _, _, .cons (k := k1) (v := v) (d := d1) r l, e => by
    by_cases h : k1 = k
    · rw [valD_pos h] at e; cases e
    · rw [valD_neg h] at e
      exact (valV_neg h).trans (RepK.none k l e)
theorem RepK.isSome (k : Key) {vs : List (Key × V)} {ds : List (Key × Dat)} (l : RepK O ps H vs ds) : (valV vs k).isSome = (valD ds k).isSome := by
  cases e : valD ds k with
  | none => rw [l.none k e]; rfl
  | some d => obtain ⟨v, e1, _⟩ := l.some k e; rw [e1]; rfl
theorem RepK.any (k : Key) : ∀ {vs : List (Key × V)} {ds : List (Key × Dat)}, RepK O ps H vs ds → (vs.any fun kv => decide (kv.1 = k)) = ds.any fun kv => decide (kv.1 = k)
  | _, _, .nil => rfl
  | _, _, .cons r l => by rw [List.any_cons, List.any_cons, RepK.any k l]
theorem RepK.app : ∀ {vs ws : List (Key × V)} {ds es : List (Key × Dat)}, RepK O ps H vs ds → RepK O ps H ws es → RepK O ps H (vs ++ ws) (ds ++ es)
  | _, _, _, _, .nil, s => s
  | _, _, _, _, .cons r l, s => .cons r (RepK.app l s)
theorem RepK.repl {k : Key} {v : V} {d : Dat} (r : Rep O ps H v d) : ∀ {vs : List (Key × V)} {ds : List (Key × Dat)}, RepK O ps H vs ds → RepK O ps H (vs.map fun kv => if kv.1 = k then (kv.1, v) else kv) (ds.map fun kv => if kv.1 = k then (kv.1, d) else kv)
  | _, _, .nil => .nil
  | _, _, .cons (k := k1) q l => by
    rw [List.map_cons, List.map_cons]
    by_cases h : k1 = k
    · simp only [h, if_true]; exact .cons r (RepK.repl r l)
    · simp only [h, if_false]; exact .cons q (RepK.repl r l)
theorem RepK.put {k : Key} {v : V} {d : Dat} (r : Rep O ps H v d) {vs : List (Key × V)} {ds : List (Key × Dat)} (l : RepK O ps H vs ds) : RepK O ps H (putK vs k v) (putD ds k d) := by
  unfold putK putD
  rw [l.any k]
  split
  · exact l.repl r
  · exact l.app (.cons r .nil)
end
theorem putD_len (ds : List (Key × Dat)) (k : Key) (d : Dat) : (putD ds k d).length ≤ ds.length + 1 := by
  unfold putD
  split
  · rw [List.length_map]; omega
  · rw [List.length_append]; exact Nat.le_refl _
theorem RepB.key {O : Addr → Prop} {P : Fix} {H : Hp} {v : V} {d : Dat} {k : Key} (r : RepB O P H v d) (e : dKey d = some k) : v = kV k := by
  cases d with
  | int i => cases e; exact r.int
  | str x => cases e; exact r.str.1
  | _ => cases e
theorem RepB.dk {O : Addr → Prop} {P : Fix} {H : Hp} {v : V} {ds : List (Key × Dat)} (r : RepB O P H v (.dk ds)) : ∃ a vs, v = .ref a ∧ Rd H a (.dK vs) ∧ vs.length ≤ sizeLine ∧ RepK O P.ps H vs ds := by
  rcases r with r | ⟨p, rfl, _, np, o'⟩
  · cases r with
    | dk h n z l => exact ⟨_, _, rfl, h, z, l⟩
  · obtain ⟨vs, h, z, l⟩ := o'
    exact ⟨p, vs, rfl, .inl h, z, l⟩
/-! ### d[k], k in d, len(d) -/
def rDGet : R2 := fun x y H Q => ∃ a v, x = .ref a ∧ DGet H a y (some v) ∧ Q v H
def rDIn (neg : Bool) : R2 := fun x y H Q => ∃ a o, y = .ref a ∧ DGet H a x o ∧ Q (.bl (xor neg o.isSome)) H
def gDGet : Dat → Dat → Option Dat
  | .dk kvs, d => (dKey d).bind (valD kvs)
  | _, _ => none
def gDIn (neg : Bool) : Dat → Dat → Option Dat
  | d, .dk kvs => (dKey d).map fun k => .bl (xor neg (valD kvs k).isSome)
  | _, _ => none
theorem r2_dget : R2S rDGet gDGet := by
  intro O P H S x y d e z Q I rx ry eg q
  unfold gDGet at eg
  split at eg
  · rename_i kvs
    cases ek : dKey e with
    | none => rw [ek] at eg; cases eg
    | some k =>
      rw [ek] at eg
      obtain ⟨a, vs, rfl, hr, _, l⟩ := rx.dk
      obtain ⟨v, e1, r1⟩ := l.some k eg
      exact ⟨a, v, rfl, .inl ⟨vs, k, hr, ry.key ek, e1.symm⟩, q v H .refl I.sm r1⟩
  · cases eg
theorem r2_din (neg : Bool) : R2S (rDIn neg) (gDIn neg) := by
  intro O P H S x y d e z Q I rx ry eg q
  unfold gDIn at eg
  split at eg
  · rename_i kvs
    cases ek : dKey d with
    | none => rw [ek] at eg; cases eg
    | some k =>
      rw [ek] at eg
      cases eg
      obtain ⟨a, vs, rfl, hr, _, l⟩ := ry.dk
      refine ⟨a, valV vs k, rfl, .inl ⟨vs, k, hr, rx.key ek, rfl⟩, ?_⟩
      rw [l.isSome k]
      exact q _ H .refl I.sm (.bl _)
  · cases eg
theorem hu1 {k : Nat} {A : Around} (hr : Room k A) : A.units + 1 < cLine := by have := hr.un; omega
theorem ix_dict {X : Cx} (hu : X.A.units + 1 < cLine) : IxR X rDGet := by
  intro value slice pins s σ H x y v u Q I rx ry h hs
  obtain ⟨a, w, rfl, g, q⟩ := h
  obtain rfl : v = Value.ref a := rx
  exact tail_any (dict_typeIs I g) PySem.F.slot_dict_getitem.lookup (d_getItem hu I g ry fun w' s3 I3 rw' => ⟨w, H, I3, rw', q⟩) hs
theorem op_dIn {X : Cx} (hu : X.A.units + 1 < cLine) : OpR X (compareOp .In) (rDIn false) := by
  intro pins s σ H x y v u Q I rx ry h
  obtain ⟨a, o, rfl, g, q⟩ := h
  obtain rfl : u = Value.ref a := ry
  exact d_in hu I g rx fun s3 I3 => ⟨.bl o.isSome, H, I3, rfl, by rw [Bool.false_xor] at q; exact q⟩
theorem op_dNotIn {X : Cx} (hu : X.A.units + 1 < cLine) : OpR X (compareOp .NotIn) (rDIn true) := by
  intro pins s σ H x y v u Q I rx ry h
  obtain ⟨a, o, rfl, g, q⟩ := h
  obtain rfl : u = Value.ref a := ry
  exact d_notIn hu I g rx fun s3 I3 => ⟨.bl (!o.isSome), H, I3, rfl, by rw [Bool.true_xor] at q; exact q⟩
section
variable {X : Cx} {a b : Expr} {ta tb : TE} {ma mb : M} {pos : Pos} {k : Nat}
def gIxA : Dat → Dat → Option Dat := gOr gIx gDGet
theorem pd_ixA (hr : Room k X.A) (ha : PDB X a ta ma) (hb : PDB X b tb mb) {K : PySem.W.Frag} (hK : X.K = K := by rfl) (hs : PlainIx b := by exact fun _ _ => rfl) : PDE X (.Subscript a b pos) (tOp (rOr (rIx K) rDGet) ta tb) (m2 gIxA ma mb) := by
  subst hK
  exact ⟨pe_ix (ix_seq.or (ix_dict (hu1 hr))) ha.pe hb.pe hs, se_op (r2_ix.or r2_dget) ha.sem hb.sem⟩
def gInA : Dat → Dat → Option Dat := gOr gIn (gDIn false)
def gNotInA : Dat → Dat → Option Dat := gOr gNotIn (gDIn true)
theorem po_inD (hr : Room k X.A) {K : PySem.W.Frag} (hK : X.K = K := by rfl) : PDO X (compareOp .In) (rOr (rInA K false) (rDIn false)) gInA := by
  subst hK
  exact (po_in hr).or ⟨op_dIn (hu1 hr), r2_din false⟩
theorem po_notinD (hr : Room k X.A) {K : PySem.W.Frag} (hK : X.K = K := by rfl) : PDO X (compareOp .NotIn) (rOr (rInA K true) (rDIn true)) gNotInA := by
  subst hK
  exact (po_notin hr).or ⟨op_dNotIn (hu1 hr), r2_din true⟩
end
def rLenD : List V → Hp → VK → Prop := fun xs H Q => ∃ a kvs, xs = [.ref a] ∧ Rd H a (.dK kvs) ∧ Q (.int kvs.length) H
theorem call_lenD {X : Cx} : CallR X (.builtin "len") rLenD := by
  intro pins s σ H xs us Q I r h
  obtain ⟨a, kvs, rfl, hd, q⟩ := h
  obtain ⟨u, rfl, rx⟩ := vals1 r
  cases rx
  exact d_len I hd fun t s' I' => ⟨.int kvs.length, H, I', ⟨t, rfl⟩, q⟩
def rLenA (K : PySem.W.Frag) : List V → Hp → VK → Prop := fun vs H Q => (fun xs H Q => ∃ x n, xs = [x] ∧ LenV K x H n ∧ Q (.int n) H) vs H Q ∨ rLenD vs H Q
theorem call_lenA {X : Cx} {K : PySem.W.Frag} (hK : X.K = K := by rfl) : CallR X (.builtin "len") (rLenA K) := by
  subst hK
  exact CallR.or call_len call_lenD
def gLenA : List Dat → Option Dat
  | [.dk kvs] => some (.int kvs.length)
  | ds => gLen ds
theorem cs_lenA {K : PySem.W.Frag} : CS (rLenA K) gLenA := by
  intro O P H S vs ds z Q I rs eg q
  unfold gLenA at eg
  split at eg
  · cases eg
    obtain ⟨v, rfl, r⟩ := rs.one
    obtain ⟨a, ws, rfl, hr, _, l⟩ := r.dk
    exact .inr ⟨a, ws, rfl, hr, by rw [l.len]; exact q _ H .refl I.sm (.int _)⟩
  · exact .inl (cs_len O P H S vs _ z Q I rs eg q)
/-! ### {}, d[k] = v -/
def mDNew : M := fun _ S => some (.dk [], S)
theorem own_dk {O : Addr → Prop} {P : Fix} {H : Hp} {p : Addr} {vs : List (Key × V)} {ds : List (Key × Dat)} (n : H p = none) (z : vs.length ≤ sizeLine) (l : RepK O P.ps H vs ds) : Own (fun a => O a ∨ a = p) P.ps (upd H p (.dK vs)) p (.dk ds) :=
  ⟨vs, upd_same, z, l.tr (.of fun a u na h => ⟨fun o => o.elim na fun e => absurd (e ▸ h) (by rw [n]; simp), (upd_ne (ne_of_none h n)).trans h⟩)⟩
theorem pn_dnew {X : Cx} {pos : Pos} : PDN X (.Dict [] [] pos) tDNewK mDNew := ⟨pe_dnewK, fun O P σ H env S r Q I e q => by
  cases e
  exact fun p n => q p _ n (ne_ps I.sm n) (.new n) (I.sm.new n) (own_dk n (Nat.zero_le _) .nil)⟩
def mDPut (i : Nat) (k a : M) : MS' := fun env S => (a env S).bind fun r => match env[i]? with
  | some (.ow (.dk ds)) => (k env r.2).bind fun y => if ds.length < 1000000 then (dKey y.1).map fun j => (.nx (env.set i (.ow (.dk (putD ds j r.1)))), y.2) else none
  | _ => none
theorem ss_dput {i : Nat} {te tk : TE} {k a : M} (h : SE te a) (hk : SE tk k) : SS (tAsg te (gSub (tVar i) tk rSetD)) (mDPut i k a) := by
  intro F σ H env S out D I e p
  unfold mDPut at e
  cases ea : a env S with
  | none => rw [ea] at e; cases e
  | some r =>
    rw [ea] at e
    simp only [Option.bind_some] at e
    split at e
    · rename_i ds hd
      refine h _ F.P σ H env S r _ I.ei ea fun v H1 f s rv => ?_
      have I1 := I.fr f s
      obtain ⟨q, h1, h2, h3, h4⟩ := I1.ei.ow i _ hd
      refine ⟨_, h1, ?_⟩
      cases ek : k env r.2 with
      | none => rw [ek] at e; cases e
      | some y =>
        rw [ek] at e
        simp only [Option.bind_some] at e
        split at e
        · rename_i hz
          cases ej : dKey y.1 with
          | none => rw [ej] at e; cases e
          | some j =>
            rw [ej] at e
            cases e
            refine hk _ F.P σ H1 env r.2 y _ I1.ei ek fun u H2 f2 s2 ru => ?_
            have eu : u = kV j := RepB.key (.inl ru) ej
            subst eu
            have I2 := I1.fr f2 s2
            obtain ⟨q', j1, j2, j3, j4⟩ := I2.ei.ow i _ hd
            rw [h1] at j1
            cases j1
            obtain ⟨vs', l1, l2, l3⟩ := j4
            have hl : vs'.length < sizeLine := by rw [l3.len]; exact lt1m hz
            refine ⟨q, _, rfl, DPut.k l1 hl, ?_⟩
            have tU : Tr (ownS F.O0 σ env) H2 (ownS F.O0 σ env) (upd H2 q (.dK (putK vs' j v))) := .of fun b u nb e => ⟨nb, (upd_ne (show b ≠ q from fun z => nb (by rw [z]; exact h2))).trans e⟩
            have hz2 : (putK vs' j v).length ≤ sizeLine := Nat.le_trans (length_putK vs' j v) hl
            obtain ⟨J, t⟩ := I2.upd (d' := .dk (putD ds j r.1)) hd h1 (o := .dK (putK vs' j v)) ⟨_, upd_same, hz2, ((l3.put (rv.tr (f2.tr I.ei.ops)))).tr tU⟩
            exact p σ _ J (((f.trans f2).tr I.ei.ops).trans t)
        · cases e
    · cases e
theorem pds_dput {X : Cx} {k : Nat} (hr : Room k X.A) {x : Str} {e ke : Expr} {te tk : TE} {ma mk : M} {px tpos pos : Pos} (i : Nat) (h : PDE X e te ma) (hk : PDE X ke tk mk) (hN : X.N[i]? = some x := by rfl)
    (hv : Vis X.env.scope x := by first | exact Or.inl rfl | exact Or.inr (Or.inl rfl) | exact Or.inr (Or.inr rfl)) (hd : (x == ("__debug__" : Str)) = false := by decide) (hcd : (x == ("__classdict__" : Str)) = false := by decide)
    (ha : ∀ v, assign (.Subscript (.Name x px) ke tpos) X.env v = (do
      let ov ← holding [v] (eval (.Name x px) X.env)
      let iv ← holding [v, ov] (eval ke X.env)
      standAt tpos
      holding [v, ov, iv] (setItem ov iv v)
      release [v, ov, iv] []) := by intro _; rfl)
    (hs : swapsWithSole [.Subscript (.Name x px) ke tpos] e pos.line X.env = pure false := by rfl) (hw : swappedStores [.Subscript (.Name x px) ke tpos] e X.env = pure none := by rfl)
    (h1 : (assignEach [.Subscript (.Name x px) ke tpos] X.env).map (·.2) = [assign (.Subscript (.Name x px) ke tpos) X.env] := by rfl) :
    PDS X (.Assign [.Subscript (.Name x px) ke tpos] e pos) (tAsg te (gSub (tVar i) tk rSetD)) (mDPut i mk ma) :=
  ⟨ps_asg h.pe (pg_sub (pe_var hN hv hd hcd) hk.pe (set_dict (hu1 hr)) ha) hs hw h1, ss_dput h.sem hk.sem⟩
/-! ### dict(a tuple of pairs with different keys) -/
def toKV : List Dat → Option (List (Key × Dat))
  | [] => some []
  | .tup [k, d] :: r => (dKey k).bind fun k => (toKV r).map ((k, d) :: ·)
  | _ => none
def gDictA : List Dat → Option Dat
  | [.tup ds] => (toKV ds).bind fun kvs => if (kvs.map (·.1)).Nodup then some (.dk kvs) else none
  | _ => none
theorem mergeK_new : ∀ (more kvs : List (Key × V)), ((kvs ++ more).map (·.1)).Nodup → mergeK kvs more = kvs ++ more
  | [], kvs, _ => (List.append_nil kvs).symm
  | p :: more, kvs, h => by
    have hn : valV kvs p.1 = none := by
      rw [List.map_append, List.nodup_append] at h
      have h3 := h.2.2
      cases e : valV kvs p.1 with
      | none => rfl
      | some v =>
        unfold valV at e
        obtain ⟨q, hq, _⟩ := Option.map_eq_some_iff.mp e
        have hm := List.mem_of_find?_eq_some hq
        have hk := List.find?_some hq
        exact (h3 p.1 (List.mem_map.mpr ⟨q, hm, of_decide_eq_true hk⟩) p.1 (List.mem_map_of_mem List.mem_cons_self) rfl).elim
    have e1 : mergeK kvs (p :: more) = mergeK (putK kvs p.1 p.2) more := rfl
    have h2 : ((kvs ++ [p]) ++ more).map (·.1) = (kvs ++ p :: more).map (·.1) := by simp
    rw [e1, putK_new p.2 hn, mergeK_new more (kvs ++ [(p.1, p.2)]) (h2 ▸ h)]
    simp
theorem RepL.kv {O : Addr → Prop} {ps : Addr} {H : Hp} : ∀ {vs : List V} {ds : List Dat} {kvs : List (Key × Dat)}, RepL O ps H vs ds → toKV ds = some kvs →
    ∃ (qs : List Addr) (ws : List (Key × V)), vs = qs.map V.ref ∧ Paired (fun p kv => TupAt H p [kV kv.1, kv.2]) qs ws ∧ RepK O ps H ws kvs
  | _, _, _, .nil, e => by cases e; exact ⟨[], [], rfl, .nil, .nil⟩
  | _, _, _, .cons (d := d) (ds := ds) r l, e => by
    unfold toKV at e
    split at e
    · rename_i h; cases h
    · rename_i k d' r' h
      cases h
      cases ek : dKey k with
      | none => rw [ek] at e; cases e
      | some k' =>
        rw [ek] at e
        simp only [Option.bind_some] at e
        cases q : toKV ds with
        | none => rw [q] at e; cases e
        | some ms =>
          rw [q] at e
          cases e
          obtain ⟨qs, ws, rfl, hp, hk⟩ := RepL.kv l q
          cases r with
          | @tup a us _ ha _ _ lu =>
            cases lu with
            | @cons v1 _ _ _ r1 l1 => cases l1 with
              | @cons v2 _ _ _ r2 l2 => cases l2 with
                | nil =>
                  have e1 : v1 = kV k' := by
                    cases k with
                    | int i => cases ek; cases r1; rfl
                    | str x => cases ek; cases r1; rfl
                    | _ => cases ek
                  subst e1
                  exact ⟨a :: qs, (k', v2) :: ws, rfl, .cons ha hp, .cons r2 hk⟩
    · cases e
/-- the pairs' values, as they stand in the heap -/
theorem pairs_at {X : Cx} {pins : List (Addr × Obj)} {σ : L2.St} {H : Hp} {s : Shared} (I : Inv X pins σ H s) : ∀ {qs : List Addr} {ws : List (Key × V)}, Paired (fun p kv => SqT X.K H p [kV kv.1, kv.2]) qs ws →
    ∃ (prs : List (Key × Value)) (ps : List (Value × Value)), KV ws prs ∧ ps.length = qs.length ∧ prs.length = qs.length ∧
      ∀ (j : Nat) (k v : Value), ps[j]? = some (k, v) → (∃ q, qs[j]? = some q ∧ IsTup s.heap q #[k, v]) ∧ ∃ key, prs[j]? = some (key, v) ∧ keyIs key k = true
  | _, _, .nil => ⟨[], [], .nil, rfl, rfl, fun j k v e => by simp at e⟩
  | _, _, .cons (a := p) (b := kv) h t => by
    obtain ⟨prs, ps, r, l1, l2, hp⟩ := pairs_at I t
    obtain ⟨its, rv, ht, _⟩ := I.tuple h
    obtain ⟨u, y, ei, ru, ry⟩ := vals2 rv
    subst ei
    refine ⟨(kv.1, y) :: prs, (u, y) :: ps, .cons ⟨rfl, ry⟩ r, congrArg (· + 1) l1, congrArg (· + 1) l2, fun j k v e => ?_⟩
    cases j with
    | zero => cases e; exact ⟨⟨p, rfl, ht⟩, kv.1, rfl, kV_is (P := X.prog) (w := X.w) ru⟩
    | succ j => exact hp j k v e
def rDictT (K : PySem.W.Frag) : List V → Hp → VK → Prop := fun xs H Q => ∃ (a : Addr) (qs : List Addr) (kvs : List (Key × V)), xs = [.ref a] ∧ TupAt H a (qs.map V.ref) ∧ Paired (fun p kv => SqT K H p [kV kv.1, kv.2]) qs kvs ∧ (kvs.map (·.1)).Nodup ∧
    ∀ p, H p = none → Q (.ref p) (upd H p (.dK kvs))
theorem call_dictT {X : Cx} (hcalm : X.calm = true) : CallR X (.type "dict") (rDictT X.K) := by
  intro pins s σ H xs us Q I r q
  obtain ⟨a, qs, kvs, ex, ⟨ob, hdn, hq⟩, hp, hnd, q⟩ := q
  subst ex
  obtain ⟨u, eu, rx⟩ := vals1 r
  subst eu
  cases rx
  obtain ⟨hob, hz, its, rv, o, ho, hc, n, hdat⟩ := I.hok a _ hq
  rw [hob] at ho
  cases ho
  have ei := refs_at rv
  subst ei
  rw [List.length_map] at hz
  obtain ⟨prs, ps, rel, l1, l2, hpr⟩ := pairs_at I hp
  have P := PySem.PairArg.tuple (prog := X.prog) (w := X.w) a (qs.map Value.ref).toArray (fun j => qs.getD j 0) ps
  have hm : (s.heap.objs.size == sysModules) = false := beq_eq_false_iff_ne.mpr (Nat.ne_of_gt I.big)
  have hlen : kvs.length ≤ sizeLine := by rw [rel.length, l2]; exact hz
  have e0 : mergeK [] kvs = kvs := mergeK_new kvs [] (by simpa using hnd)
  refine PySem.call_dict_pairs (A := X.A) (knd := mixKind X.prog X.w) (kvs := prs) P (I.ok.hd hcalm) ⟨⟨ob, n, hob, hc, hdn, hdat⟩, ?_, fun j k v e => ?_⟩ ⟨by rw [l2, l1], fun i key v e => ?_⟩ (by rw [l1]; exact hz) fun h' tk hd' k => ?_
  · rw [List.size_toArray, List.length_map, l1]
  · obtain ⟨⟨b, e1, t1⟩, _⟩ := hpr j k v e
    have e2 : qs.getD j 0 = b := by rw [List.getD_eq_getElem?_getD, e1]; rfl
    show _ = some (Value.ref (qs.getD j 0)) ∧ PairAt s.heap (qs.getD j 0) k v
    rw [e2]
    refine ⟨?_, .inl t1⟩
    rw [List.getElem?_toArray, List.getElem?_map, e1]
    rfl
  · obtain ⟨_, key', e1, e2⟩ := hpr i key v e
    exact ⟨key', e1, e2⟩
  · exact ⟨.ref s.heap.objs.size, upd H s.heap.objs.size (.dK kvs), I.laid (t' := tk) (fun b o e => k b o (by simp) e) (Nat.le_refl _) (show ObjOk X.prog X.w _ _ _ (.dK kvs) from ⟨hlen, hm, merged [] prs, e0 ▸ KV.merge rel .nil, hd'⟩), rfl, q _ I.fresh⟩
theorem call_dictA {X : Cx} (hc : X.calm = true) {K : PySem.W.Frag} (hK : X.K = K := by rfl) : CallR X (.type "dict") (rDictT K) := by
  subst hK
  exact call_dictT hc
theorem paired_sq {K : PySem.W.Frag} {H : Hp} : ∀ {qs : List Addr} {ws : List (Key × V)}, Paired (fun p kv => TupAt H p [kV kv.1, kv.2]) qs ws → Paired (fun p kv => SqT K H p [kV kv.1, kv.2]) qs ws
  | _, _, .nil => .nil
  | _, _, .cons h t => .cons h.sq (paired_sq t)
theorem cn_dictA {K : PySem.W.Frag} : CN (rDictT K) gDictA := by
  intro O P H S vs ds z Q I rs eg q
  unfold gDictA at eg
  split at eg
  · rename_i ds
    cases en : toKV ds with
    | none => rw [en] at eg; cases eg
    | some kvs =>
      rw [en] at eg
      simp only [Option.bind_some] at eg
      split at eg
      · rename_i hnd
        cases eg
        obtain ⟨v, rfl, r⟩ := rs.one
        obtain ⟨a, vs, rfl, ha, hz, l, _⟩ := r.tup
        obtain ⟨qs, ws, rfl, hp, hk⟩ := l.kv en
        refine ⟨a, qs, ws, rfl, ha, paired_sq hp, hk.keys ▸ hnd, fun p n => q p _ n (.new n) (I.sm.new n) (own_dk n ?_ hk)⟩
        have e1 : (ws.map (·.1)).length = ws.length := List.length_map _
        have e2 := hp.length
        rw [List.length_map] at hz
        omega
      · cases eg
  · cases eg
end PD

namespace PD
open PySem PySem.Spec PyProof.Rows L2
/-! ### [x] * n -/
def gRepA : Dat → Dat → Option Dat
  | .lst [d], .int k => if (decide (-100000 ≤ k) && decide (k ≤ 100000)) = true then some (.lst (List.replicate k.toNat d)) else none
  | _, _ => none
theorem repL_rep {O : Addr → Prop} {ps : Addr} {H : Hp} {v : V} {d : Dat} (r : Rep O ps H v d) : ∀ n : Nat, RepL O ps H (List.replicate n v) (List.replicate n d)
  | 0 => .nil
  | n + 1 => .cons r (repL_rep r n)
theorem r2_repA : R2N rRep gRepA := by
  intro O P H S x y d e z Q I rx ry eg q
  unfold gRepA at eg
  split at eg
  · rename_i d0 k
    split at eg
    · rename_i hk
      rw [Bool.and_eq_true, decide_eq_true_eq, decide_eq_true_eq] at hk
      cases eg
      obtain ⟨a, vs, rfl, h, hz, l, _⟩ := rx.lst I.ops
      cases ry.int
      cases l with
      | @cons v _ _ _ r l0 => cases l0 with
        | nil =>
          have e : (List.replicate k.toNat [v]).flatten = List.replicate k.toNat v := by simp
          have hz2 : [v].length * k.toNat ≤ sizeLine := by
            have : k.toNat ≤ 100000 := by omega
            have big : (100000 : Nat) ≤ sizeLine := by decide
            rw [List.length_singleton, Nat.one_mul]
            omega
          refine ⟨a, k, [v], rfl, rfl, h, by omega, by omega, hz2, fun p n => q p _ n (ne_ps I.sm n) (.new n) (I.sm.new n) ?_⟩
          rw [e]
          refine own_new n ?_ (repL_rep r _)
          rw [List.length_replicate]
          rw [List.length_singleton, Nat.one_mul] at hz2
          exact hz2
    · cases eg
  · cases eg
theorem pn_rep {X : Cx} {a b : Expr} {ta tb : TE} {ma mb : M} {pos : Pos} (ha : PDB X a ta ma) (hb : PDB X b tb mb) : PDN X (.BinOp a .Mult b pos) (tOp rRep ta tb) (m2 gRepA ma mb) := ⟨pe_op op_rep ha.pe hb.pe, sn_op r2_repA ha.sem hb.sem⟩
/-! ### list[i] += int -/
def rGetL (K : PySem.W.Frag) : V → V → Hp → VK → Prop := fun o i H Q => ∃ p xs k z, o = .ref p ∧ i = .int k ∧ SqL K H p xs ∧ atI xs k = some z ∧ Q z H
theorem get_list {X : Cx} : PGet X (rGetL X.K) := by
  intro pins s σ H o i ov iv Q I ro ri h
  obtain ⟨p, xs, k, z, rfl, rfl, hq, he, q⟩ := h
  cases ro
  obtain ⟨t, rfl⟩ := ri
  obtain ⟨its, r, pl, hz⟩ := I.list hq
  obtain ⟨j, h1, h2, h3, h4, h5⟩ := atI_get he
  obtain ⟨w, ew, rw'⟩ := r.get h2
  have hl := r.length
  have hn := line63
  have fin : EP X pins σ Q w s := ⟨z, H, I, rw', q⟩
  by_cases h0 : 0 ≤ k
  · have hj : k.toNat = j := by
      rw [seqIndex_of h0 h5] at h1
      exact Option.some.inj h1
    exact wpAny_getItem_list pl.isList h0 (by omega) (by rw [hj]; simpa using ew) fin
  · have hj : (k + (its.toArray.size : Int)).toNat = j := by
      rw [seqIndex_neg (by omega) h4] at h1
      rw [List.size_toArray, ← hl]
      exact Option.some.inj h1
    exact wpAny_getItem_list_neg pl.isList (by omega) (by rw [List.size_toArray] <;> omega) (by omega) (by rw [hj]; simpa using ew) fin
def mAugI (i : Nat) (k a : M) : MS' := fun env S => match env[i]? with
  | some (.ow (.lst ds)) => (k env S).bind fun y => match y.1 with
    | .int j => match atI ds j with
      | some (.int u) => (a env y.2).bind fun r => match r.1 with
        | .int v => (ixN ds.length j).map fun n => (.nx (env.set i (.ow (.lst (ds.set n (.int (u + v)))))), r.2)
        | _ => none
      | _ => none
    | _ => none
  | _ => none
theorem ss_augI {K : PySem.W.Frag} {i : Nat} {te tk : TE} {k a : M} (hk : SE tk k) (h : SE te a) : SS (tAugS (tVar i) tk te (rGetL K) (ipI fun i j => i + j) rSetL) (mAugI i k a) := by
  intro F σ H env S out D I e p
  unfold mAugI at e
  split at e
  · rename_i ds hd
    obtain ⟨q, h1, h2, h3, h4⟩ := I.ei.ow i _ hd
    refine ⟨_, h1, ?_⟩
    cases ek : k env S with
    | none => rw [ek] at e; cases e
    | some y =>
      rw [ek] at e
      simp only [Option.bind_some] at e
      split at e
      · rename_i j hj
        split at e
        · rename_i u hu
          refine hk _ F.P σ H env S y _ I.ei ek fun w H1 f s rw => ?_
          rw [hj] at rw
          cases rw
          have I1 := I.fr f s
          obtain ⟨q', j1, j2, j3, vs', l1, l2, l3⟩ := I1.ei.ow i _ hd
          rw [h1] at j1
          cases j1
          obtain ⟨v0, e0, r0⟩ := l3.at hu
          cases r0
          refine ⟨q, vs', j, _, rfl, rfl, SqL.of l1, e0, ?_⟩
          cases ea : a env y.2 with
          | none => rw [ea] at e; cases e
          | some r =>
            rw [ea] at e
            simp only [Option.bind_some] at e
            split at e
            · rename_i v hv
              cases en : ixN ds.length j with
              | none => rw [en] at e; cases e
              | some n =>
                rw [en] at e
                cases e
                refine h _ F.P σ H1 env y.2 r _ I1.ei ea fun w2 H2 f2 s2 r2 => ?_
                rw [hv] at r2
                cases r2
                refine ⟨u, v, rfl, rfl, ?_⟩
                have I2 := I1.fr f2 s2
                obtain ⟨q', j1, j2, j3, ws', k1, k2, k3⟩ := I2.ei.ow i _ hd
                rw [h1] at j1
                cases j1
                refine ⟨q, ws', j, n, rfl, rfl, k1, by rw [k3.len]; exact en, ?_⟩
                have tU : Tr (ownS F.O0 σ env) H2 (ownS F.O0 σ env) (upd H2 q (.lst (ws'.set n (.int (u + v))))) := .of fun b u nb e => ⟨nb, (upd_ne (show b ≠ q from fun z => nb (by rw [z]; exact h2))).trans e⟩
                obtain ⟨J, t⟩ := I2.upd (d' := .lst (ds.set n (.int (u + v)))) hd h1 (o := .lst (ws'.set n (.int (u + v)))) ⟨_, upd_same, by rw [List.length_set]; exact k2, (RepL.set (.int _) n k3).tr tU⟩
                exact p σ _ J (((f.trans f2).tr I.ei.ops).trans t)
            · cases e
        · cases e
      · cases e
  · cases e
theorem pds_augI {X : Cx} {x : Str} {e ke : Expr} {te tk : TE} {ma mk : M} {px tpos pos : Pos} (i : Nat) (hk : PDE X ke tk mk) (h : PDE X e te ma) {K : PySem.W.Frag} (hK : X.K = K := by rfl) (hN : X.N[i]? = some x := by rfl)
    (hv : Vis X.env.scope x := by first | exact Or.inl rfl | exact Or.inr (Or.inl rfl) | exact Or.inr (Or.inr rfl)) (hd : (x == ("__debug__" : Str)) = false := by decide) (hcd : (x == ("__classdict__" : Str)) = false := by decide)
    (ha : ∀ ov iv new, augStore ke ov iv new = (do holding [new, ov, iv] (setItem ov iv new); release [new, ov, iv] []; pure .next) := by intros; rfl) :
    PDS X (.AugAssign (.Subscript (.Name x px) ke tpos) .Add e pos) (tAugS (tVar i) tk te (rGetL K) (ipI fun i j => i + j) rSetL) (mAugI i mk ma) := by
  subst hK
  exact ⟨ps_augS (pe_var hN hv hd hcd) hk.pe get_list h.pe ip_add set_list ha, ss_augI hk.sem h.sem⟩
/-! ### sorted(a dict of texts) -/
def strKeys : List (Key × Dat) → Option (List Str)
  | [] => some []
  | (.inr x, _) :: r => (strKeys r).map (x :: ·)
  | _ => none
theorem strKeys_map : ∀ {kvs : List (Key × Dat)} {ks : List Str}, strKeys kvs = some ks → kvs.map (·.1) = ks.map Sum.inr
  | [], ks, e => by cases e; rfl
  | (.inr x, d) :: r, ks, e => by
    unfold strKeys at e
    cases h : strKeys r with
    | none => rw [h] at e; cases e
    | some zs => rw [h] at e; cases e; rw [List.map_cons, strKeys_map h]; rfl
  | (.inl i, d) :: r, ks, e => by cases e
def gSortD : List Dat → Option Dat
  | [.dk kvs] => (strKeys kvs).bind fun ks => if ks.length < 64 ∧ ∀ k ∈ ks, k.length ≤ 1000 then some (.lst ((sortS ks).map .str)) else none
  | ds => gSortA ds
def rSortD : List V → Hp → VK → Prop := fun xs H Q => ∃ (a : Addr) (kvs : List (Key × V)) (ks : List Str), xs = [.ref a] ∧ Rd H a (.dK kvs) ∧ kvs.map (·.1) = ks.map Sum.inr ∧ ks.length < 64 ∧
    ∀ ys p, ys.Perm ks → sortedS ys = true → H p = none → Q (.ref p) (upd H p (.lst (ys.map V.str)))
def rSortB (K : PySem.W.Frag) : List V → Hp → VK → Prop := fun vs H Q => rSortA K vs H Q ∨ rSortD vs H Q
theorem cr_sortB {X : Cx} {k : Nat} (hr : Room k X.A) (hc : X.calm = true) {K : PySem.W.Frag} (hK : X.K = K := by rfl) : CallR X (.builtin "sorted") (rSortB K) := by
  subst hK
  refine CallR.or (cr_sortA hr) fun pins s σ H xs us Q I r h => ?_
  obtain ⟨a, kvs, ks, e1, e2, e3, e4, e5⟩ := h
  exact call_sortedD hc pins s σ H xs us Q I r ⟨a, kvs, ks, e1, e2, e3, e4, e5⟩
theorem cn_sortB {K : PySem.W.Frag} : CN (rSortB K) gSortD := by
  intro O P H S vs ds z Q I rs eg q
  unfold gSortD at eg
  split at eg
  · rename_i kvs
    cases ek : strKeys kvs with
    | none => rw [ek] at eg; cases eg
    | some ks =>
      rw [ek] at eg
      simp only [Option.bind_some] at eg
      split at eg
      · rename_i h64
        cases eg
        obtain ⟨v, rfl, r⟩ := rs.one
        obtain ⟨a, ws, rfl, hr, hz, l⟩ := r.dk
        refine .inr ⟨a, ws, ks, rfl, hr, l.keys.trans (strKeys_map ek), h64.1, fun ys p pm st n => q p _ n (.new n) (I.sm.new n) ?_⟩
        have e := sortS_of pm st
        subst e
        refine own_new n ?_ (repL_strs _ fun x hx => le1000 (h64.2 x (pm.mem_iff.mp hx)))
        rw [List.length_map, pm.length_eq]
        exact le1000 (by omega)
      · cases eg
  · exact .inl (cn_sortA O P H S vs _ z Q I rs eg q)
end PD

namespace PD
open PySem PySem.Spec PyProof.Rows L2
/-! ### order of data -/
def isNonP : PyData → Bool
  | .none => true
  | _ => false
def okCmp (x y : PyData) : Bool := PySem.W.alike x y && (!isNonP x && decide (min x.depth y.depth ≤ 20))
def gDataGe : Dat → Dat → Option Dat := fun d e => match toPy d, toPy e with
  | some x, some y => if okCmp x y = true then some (.bl (!PySem.W.dataLt x y)) else none
  | _, _ => none
def rDataGe (K : PySem.W.Frag) : R2 := fun x y H Q => ∃ p q, Dp K H x p ∧ Dp K H y q ∧ okCmp p q = true ∧ Q (.bl (!PySem.W.dataLt p q)) H
theorem op_dataGe {X : Cx} {k : Nat} (hr : Room k X.A) : OpR X (compareOp .GtE) (rDataGe X.K) := by
  intro pins s σ H x y v u Q I rx ry h
  obtain ⟨p, q, hp, hq, ok, fin⟩ := h
  unfold okCmp at ok
  simp only [Bool.and_eq_true, Bool.not_eq_true', decide_eq_true_eq] at ok
  obtain ⟨as, ra⟩ := Dp.reads I _ _ _ hp rx
  obtain ⟨bs, rb⟩ := Dp.reads I _ _ _ hq ry
  refine PySem.W.ge_data ra rb ok.1 (fun e => by rw [e] at ok; cases ok.2.1) ?_ ⟨.bl _, H, I, rfl, fin⟩
  have := hr.un
  omega
theorem r2_dataGe {K : PySem.W.Frag} : R2S (rDataGe K) gDataGe := by
  intro O P H S x y d e z Q I rx ry eg q
  unfold gDataGe at eg
  split at eg
  · rename_i px py e1 e2
    split at eg
    · rename_i ok
      cases eg
      exact ⟨px, py, rx.dp e1, ry.dp e2, ok, q _ H .refl I.sm (.bl _)⟩
    · cases eg
  · cases eg
def gGeA : Dat → Dat → Option Dat := gOr gGe gDataGe
theorem po_geA {X : Cx} {k : Nat} (hr : Room k X.A) {K : PySem.W.Frag} (hK : X.K = K := by rfl) : PDO X (compareOp .GtE) (rOr (rOr (rI0 fun i j => .bl (decide (j ≤ i))) (fun x y H Q => ∃ i j, x = .str i ∧ y = .str j ∧ Q (.bl (!decide (i.cps.toList < j.cps.toList))) H)) (rDataGe K)) gGeA := by
  subst hK
  exact po_ge.or ⟨op_dataGe hr, r2_dataGe⟩
/-! ### sorted(a list of data) -/
def pyOf (d : Dat) : PyData := (toPy d).getD .none
def isTupP : PyData → Bool
  | .tuple (_ :: _) => true
  | _ => false
def okSort (ds : List Dat) : Bool := ds.all fun d => (toPy d).isSome && (isTupP (pyOf d) && (decide ((pyOf d).depth ≤ 20) && ds.all fun e => PySem.W.alike (pyOf d) (pyOf e)))
def sortG (ds : List Dat) : List Dat := ds.mergeSort (PySem.W.dataLe false pyOf)
def gSortG : List Dat → Option Dat
  | [.lst ds] => if (okSort ds && decide (ds.length ≤ 1000)) = true then some (.lst (sortG ds)) else none
  | _ => none
def rSortG (K : PySem.W.Frag) : List V → Hp → VK → Prop := fun vs H Q => ∃ (a : Addr) (ws : List V) (bs : List Dat) (T : V → Dat → Prop), vs = [.ref a] ∧ SqL K H a ws ∧ Paired T ws bs ∧ (∀ x b, T x b → b ∈ bs → Dp K H x (pyOf b)) ∧ okSort bs = true ∧ bs.length ≤ 1000 ∧
  ∀ zs p, Paired T zs (sortG bs) → H p = none → Q (.ref p) (upd H p (.lst zs))
theorem each_of {T : V → Dat → Prop} : ∀ {ws : List V} {bs : List Dat} {us : List Value}, Paired T ws bs → Vals ws us → PySem.W.EachIs (fun v b => ∃ x, RelV x v ∧ T x b) us bs
  | _, _, _, .nil, .nil => .nil
  | _, _, _, .cons h t, .cons r l => .cons ⟨_, r, h⟩ (each_of t l)
theorem each_to {T : V → Dat → Prop} : ∀ {us : List Value} {bs : List Dat}, PySem.W.EachIs (fun v b => ∃ x, RelV x v ∧ T x b) us bs → ∃ zs, Vals zs us ∧ Paired T zs bs
  | _, _, .nil => ⟨[], .nil, .nil⟩
  | _, _, .cons ⟨x, r, h⟩ t => let ⟨zs, v, p⟩ := each_to t; ⟨x :: zs, .cons r v, .cons h p⟩
theorem cr_sortG {X : Cx} {k : Nat} (hr : Room k X.A) {K : PySem.W.Frag} (hK : X.K = K := by rfl) : CallR X (.builtin "sorted") (rSortG K) := by
  subst hK
  intro pins s σ H vs us Q I r q
  obtain ⟨a, ws, bs, T, rfl, hs, pT, hT, ok, hz, q⟩ := q
  obtain ⟨its, rv, pl, hz2⟩ := I.list hs
  rw [Vals.ref1 r]
  have e0 := each_of pT rv
  have ok' := List.all_eq_true.mp ok
  have al : PySem.W.AllAlike (bs.map pyOf) := by
    intro d hd d' hd'
    obtain ⟨b, hb, rfl⟩ := List.mem_map.mp hd
    obtain ⟨b', hb', rfl⟩ := List.mem_map.mp hd'
    have := ok' b hb
    simp only [Bool.and_eq_true] at this
    exact List.all_eq_true.mp this.2.2.2 b' hb'
  have so : PySem.W.Sortable (bs.map pyOf) := .inl fun d hd => by
    obtain ⟨b, hb, rfl⟩ := List.mem_map.mp hd
    have := ok' b hb
    simp only [Bool.and_eq_true] at this
    have h := this.2.1
    unfold isTupP at h
    split at h
    · rename_i x r e; exact ⟨x, r, e⟩
    · cases h
  refine PySem.W.sorted_data (enc := pyOf) pl.isList e0 ((PySem.W.each_mem e0).mono fun v b ⟨⟨x, r1, t1⟩, hb⟩ => Dp.reads I _ x v (hT x b t1 hb) r1) al so (Nat.le_trans hz (by decide)) (fun b hb => ?_) fun out ho eo => ?_
  · have := ok' b hb
    simp only [Bool.and_eq_true, decide_eq_true_eq] at this
    have h := hr.un
    have := this.2.2.1
    omega
  · obtain ⟨zs, v1, v2⟩ := each_to eo
    obtain ⟨ep, he⟩ := sortedAll_at s.heap its out.toArray
    have hzl : zs.length ≤ sizeLine := by rw [v1.length, ho]; exact Nat.le_trans hz (by decide)
    exact ⟨.ref (s.heap.objs.size + 1), upd H (s.heap.objs.size + 1) (.lst zs), I.laid (t' := s.toks) (fun _ _ => sortedAll_old) (Nat.le_succ _) ⟨hzl, out, ep, v1, he⟩, rfl, q zs _ v2 (I.hok.fresh (Nat.le_succ _))⟩
theorem RepL.paired {O : Addr → Prop} {ps : Addr} {H : Hp} : ∀ {vs : List V} {ds : List Dat}, RepL O ps H vs ds → Paired (fun x b => Rep O ps H x b) vs ds
  | _, _, .nil => .nil
  | _, _, .cons r l => .cons r (RepL.paired l)
theorem paired_repL {O : Addr → Prop} {ps : Addr} {H : Hp} : ∀ {vs : List V} {ds : List Dat}, Paired (fun x b => Rep O ps H x b) vs ds → RepL O ps H vs ds
  | _, _, .nil => .nil
  | _, _, .cons r l => .cons r (paired_repL l)
theorem cn_sortG {K : PySem.W.Frag} : CN (rSortG K) gSortG := by
  intro O P H S vs ds z Q I rs eg q
  unfold gSortG at eg
  split at eg
  · rename_i ds
    split at eg
    · rename_i ok
      rw [Bool.and_eq_true, decide_eq_true_eq] at ok
      cases eg
      obtain ⟨v, rfl, r⟩ := rs.one
      obtain ⟨a, ws, rfl, ha, hz, l, _⟩ := r.lst I.ops
      refine ⟨a, ws, ds, fun x b => Rep O P.ps H x b, rfl, SqL.of ha, l.paired, fun x b t hb => ?_, ok.1, ok.2, fun zs p pz n => q p _ n (.new n) (I.sm.new n) (own_new n ?_ (paired_repL pz))⟩
      · have := List.all_eq_true.mp ok.1 b hb
        simp only [Bool.and_eq_true] at this
        obtain ⟨pd, e⟩ := Option.isSome_iff_exists.mp this.1
        have e2 : pyOf b = pd := by unfold pyOf; rw [e]; rfl
        rw [e2]
        exact t.dp e
      · have e := pz.length
        unfold sortG at e
        rw [(List.mergeSort_perm _ _).length_eq] at e
        rw [e]
        exact le1000 ok.2
    · cases eg
  · cases eg
end PD
namespace PD
open PySem PySem.Spec PyProof.Rows L2
/-! ### tuple(a text) -/
def rTupStr : List V → Hp → VK → Prop := fun vs H Q => ∃ x : Str, vs = [.str x] ∧ x.length ≤ 1000 ∧ ∀ (p : Addr) (ob : Obj), H p = none → ob.dict = none → Q (.ref p) (upd H p (.frz ob (.tup (x.cps.toList.map fun c => V.str ⟨#[c]⟩))))
theorem signs_vals (x : Str) (acc : Array Value) (h1 : acc.size = x.cps.size) (h2 : ∀ (j : Nat) (v : Value), acc[j]? = some v → ∃ c u, x.cps[j]? = some c ∧ v = Value.str ⟨#[c]⟩ u) : Vals (x.cps.toList.map fun c => V.str ⟨#[c]⟩) acc.toList := by
  have go : ∀ (cs : List Nat) (us : List Value), us.length = cs.length → (∀ (j : Nat) (v : Value), us[j]? = some v → ∃ c u, cs[j]? = some c ∧ v = Value.str ⟨#[c]⟩ u) → Vals (cs.map fun c => V.str ⟨#[c]⟩) us := by
    intro cs
    induction cs with
    | nil => intro us h _; cases us with | nil => exact .nil | cons _ _ => cases h
    | cons c cs ih =>
      intro us h hh
      cases us with
      | nil => cases h
      | cons v us =>
        obtain ⟨c', u, e1, e2⟩ := hh 0 v rfl
        cases e1
        exact .cons ⟨u, e2⟩ (ih us (by simpa using h) fun j v hv => hh (j + 1) v hv)
  refine go _ _ (by rw [Array.length_toList, Array.length_toList]; exact h1) fun j v hv => ?_
  obtain ⟨c, u, e1, e2⟩ := h2 j v (by rw [Array.getElem?_toList] at hv; exact hv)
  exact ⟨c, u, by rw [Array.getElem?_toList]; exact e1, e2⟩
theorem cr_tupStr {X : Cx} (hc : X.calm = true) : CallR X (.type "tuple") rTupStr := by
  intro pins s σ H vs us Q I r q
  obtain ⟨x, rfl, hz, q⟩ := q
  obtain ⟨u, rfl, t, rfl⟩ := vals1 r
  refine call_tuple_str (I.ok.hd hc) x t (fun h1 tk acc hk hacc => ?_) (le1000 hz)
  have hv := signs_vals x acc hacc.1 hacc.2
  have hl : (x.cps.toList.map fun c => V.str ⟨#[c]⟩).length ≤ sizeLine := by
    rw [List.length_map, Array.length_toList]
    exact le1000 hz
  have := laid_tupF (tk := tk) (I.kept (h' := h1) (t' := tk) hk) hv hl q
  rw [Array.toArray_toList] at this
  exact this
def rTupB (K : PySem.W.Frag) : List V → Hp → VK → Prop := fun vs H Q => rTupF K vs H Q ∨ rTupStr vs H Q
theorem call_tupB {X : Cx} (hc : X.calm = true) {K : PySem.W.Frag} (hK : X.K = K := by rfl) : CallR X (.type "tuple") (rTupB K) := by
  subst hK
  exact CallR.or call_tupF (cr_tupStr hc)
def gTupB : List Dat → Option Dat
  | [.str x] => if x.length ≤ 1000 then some (.tup (signsD x)) else none
  | ds => gTupA ds
theorem cs_tupB {K : PySem.W.Frag} : CS (rTupB K) gTupB := by
  intro O P H S vs ds z Q I rs eg q
  unfold gTupB at eg
  split at eg
  · split at eg
    · rename_i hz
      cases eg
      obtain ⟨v, rfl, r⟩ := rs.one
      obtain ⟨rfl, _⟩ := r.str
      exact .inr ⟨_, rfl, hz, fun p ob n d => q _ _ (.new n) (I.sm.new n) (.tup (.new d) (not_own I n) (by rw [List.length_map, Array.length_toList]; exact le1000 hz) (repL_new (repL_signs _) n))⟩
    · cases eg
  · exact .inl (cs_tupA O P H S vs _ z Q I rs eg q)
end PD

namespace PD
open PySem PySem.Spec PyProof.Rows L2
theorem lookup_relabelF {env : PySem.Env} : ∀ {names : List (Str × NameKind)} {x : Str}, (names.lookup x = some .cell ∨ names.lookup x = some .free) →
    ((names.map fun (n, k) => if (k == NameKind.free && env.scope.kind == .function && env.kindOf n == some .cell) then (n, NameKind.cell) else (n, k)).lookup x = some .cell ∨ 
    (names.map fun (n, k) => if (k == NameKind.free && env.scope.kind == .function && env.kindOf n == some .cell) then (n, NameKind.cell) else (n, k)).lookup x = some .free)
  | [], _, h => by simp at h
  | (n, k) :: r, x, h => by
    have ih := @lookup_relabelF env r x
    show List.lookup x ((if (k == NameKind.free && env.scope.kind == .function && env.kindOf n == some .cell) = true then (n, NameKind.cell) else (n, k)) :: _) = _ ∨ List.lookup x ((if (k == NameKind.free && env.scope.kind == .function && env.kindOf n == some .cell) = true then (n, NameKind.cell) else (n, k)) :: _) = _
    cases hx : x == n with
    | true =>
      simp only [List.lookup_cons, hx] at h
      by_cases hc : (k == NameKind.free && env.scope.kind == .function && env.kindOf n == some .cell) = true
      · rw [if_pos hc]; simp only [List.lookup_cons, hx]; simp
      · rw [if_neg hc]; simp only [List.lookup_cons, hx]; exact h
    | false =>
      simp only [List.lookup_cons, hx] at h
      by_cases hc : (k == NameKind.free && env.scope.kind == .function && env.kindOf n == some .cell) = true
      · rw [if_pos hc]; simp only [List.lookup_cons, hx]; exact ih h
      · rw [if_neg hc]; simp only [List.lookup_cons, hx]; exact ih h
theorem blkOk_blk {X : Cx} {N : List Str} {s : Shared} {H : Hp} {sc0 scope : Scope} {cl : List (Str × Addr)} {C : Addr} {env : PySem.Env} {fp : List Addr} {own : List (Str × Nat)} (hN : X.N = N) (h : blkC N sc0 scope own = true) :
    BlkOk (X.blk s H sc0 (compEnvC sc0 cl C env) fp).N (X.blk s H sc0 (compEnvC sc0 cl C env) fp).env.scope scope own := by
  subst hN
  have b := blkOk_by h
  exact ⟨b.kind, b.uniq, b.ix, fun y hy e => lookup_relabelF (b.free y hy e), b.own⟩
end PD

namespace PD
open PySem PySem.Spec PyProof.Rows L2
/-! ### what a term hands back -/
def Ok {α : Type} (o : Option (α × Sm)) (Q : α → Sm → Prop) : Prop := ∃ a S, o = some (a, S) ∧ Q a S
def Pu {α : Type} (o : Option α) (Q : α → Prop) : Prop := ∃ a, o = some a ∧ Q a
theorem Ok.mono {α : Type} {o : Option (α × Sm)} {Q R : α → Sm → Prop} (h : Ok o Q) (k : ∀ a S, Q a S → R a S) : Ok o R := let ⟨a, S, e, q⟩ := h; ⟨a, S, e, k a S q⟩
theorem ok_some {α : Type} {a : α} {S : Sm} {Q : α → Sm → Prop} : Ok (some (a, S)) Q ↔ Q a S := ⟨fun ⟨_, _, e, q⟩ => by cases e; exact q, fun q => ⟨a, S, rfl, q⟩⟩
theorem ok_none {α : Type} {Q : α → Sm → Prop} : Ok (none : Option (α × Sm)) Q ↔ False := ⟨(fun ⟨_, _, e, _⟩ => by cases e), False.elim⟩
theorem pu_some {α : Type} {a : α} {Q : α → Prop} : Pu (some a) Q ↔ Q a := ⟨fun ⟨_, e, q⟩ => by cases e; exact q, fun q => ⟨a, rfl, q⟩⟩
theorem pu_none {α : Type} {Q : α → Prop} : Pu (none : Option α) Q ↔ False := ⟨(fun ⟨_, e, _⟩ => by cases e), False.elim⟩
theorem ok_bind {α β : Type} {o : Option (α × Sm)} {f : α × Sm → Option (β × Sm)} {Q : β → Sm → Prop} : Ok (o.bind f) Q ↔ Ok o fun a S => Ok (f (a, S)) Q := by
  cases o with
  | none => simp [ok_none]
  | some x => obtain ⟨a, S⟩ := x; simp [ok_some]
theorem ok_mapS {α β : Type} {o : Option (α × Sm)} {f : α × Sm → β × Sm} {Q : β → Sm → Prop} : Ok (o.map f) Q ↔ Ok o fun a S => Q (f (a, S)).1 (f (a, S)).2 := by
  cases o with
  | none => simp [ok_none]
  | some x => obtain ⟨a, S⟩ := x; rw [ok_some]; exact ok_some (a := (f (a, S)).1) (S := (f (a, S)).2)
theorem ok_mapP {α β : Type} {o : Option α} {f : α → β × Sm} {Q : β → Sm → Prop} : Ok (o.map f) Q ↔ Pu o fun a => Q (f a).1 (f a).2 := by
  cases o with
  | none => simp [ok_none, pu_none]
  | some x => rw [pu_some]; exact ok_some (a := (f x).1) (S := (f x).2)
theorem ok_ite {α : Type} {c : Prop} [Decidable c] {o o' : Option (α × Sm)} {Q : α → Sm → Prop} : Ok (if c then o else o') Q ↔ if c then Ok o Q else Ok o' Q := by split <;> rfl
/-- a bool, an int, a text -/
def isB : Dat → (Bool → Prop) → Prop
  | .bl b, Q => Q b
  | _, _ => False
def isI : Dat → (Int → Prop) → Prop
  | .int b, Q => Q b
  | _, _ => False
def isS : Dat → (Str → Prop) → Prop
  | .str b, Q => Q b
  | _, _ => False
theorem isB_bl {b : Bool} {Q : Bool → Prop} : isB (.bl b) Q ↔ Q b := Iff.rfl
theorem isI_int {b : Int} {Q : Int → Prop} : isI (.int b) Q ↔ Q b := Iff.rfl
theorem isS_str {b : Str} {Q : Str → Prop} : isS (.str b) Q ↔ Q b := Iff.rfl
section
variable {env : DEnv} {S : Sm} {Q : Dat → Sm → Prop} {QT : Bool → Sm → Prop} {QL : List Dat → Sm → Prop} {QS : Fl → Sm → Prop} {QO : Option Int → Sm → Prop}
theorem w_var {i : Nat} : Ok (mVar i env S) Q ↔ ∃ d, env[i]? = some (.fz d) ∧ Q d S := by
  unfold mVar
  split
  · rename_i d h; rw [ok_some]; exact ⟨fun q => ⟨d, h, q⟩, fun ⟨d', e, q⟩ => by rw [h] at e; cases e; exact q⟩
  · rename_i h; rw [ok_none]; exact ⟨False.elim, fun ⟨d, e, _⟩ => h d e⟩
theorem w_varB {i : Nat} : Ok (mVarB i env S) Q ↔ ∃ d, (env[i]? = some (.fz d) ∨ env[i]? = some (.ow d)) ∧ Q d S := by
  unfold mVarB
  split
  · rename_i d h; rw [ok_some]; exact ⟨fun q => ⟨d, .inl h, q⟩, fun ⟨d', e, q⟩ => by rw [h] at e; rcases e with e | e <;> cases e; exact q⟩
  · rename_i d h; rw [ok_some]; exact ⟨fun q => ⟨d, .inr h, q⟩, fun ⟨d', e, q⟩ => by rw [h] at e; rcases e with e | e <;> cases e; exact q⟩
  · rename_i h1 h2; rw [ok_none]; exact ⟨False.elim, fun ⟨d, e, _⟩ => e.elim (h1 d) (h2 d)⟩
theorem w_c {d : Dat} : Ok (mC d env S) Q ↔ Q d S := ok_some
theorem w_2 {g : Dat → Dat → Option Dat} {a b : M} : Ok (m2 g a b env S) Q ↔ Ok (a env S) fun x S1 => Ok (b env S1) fun y S2 => Pu (g x y) fun z => Q z S2 := by unfold m2; simp only [ok_bind, ok_mapP]
theorem w_nil : Ok (mNil env S) QL ↔ QL [] S := ok_some
theorem w_cons {a : M} {b : ML} : Ok (mCons a b env S) QL ↔ Ok (a env S) fun x S1 => Ok (b env S1) fun y S2 => QL (x :: y) S2 := by unfold mCons; simp only [ok_bind, ok_mapS]
theorem w_tup {a : ML} : Ok (mTup a env S) Q ↔ Ok (a env S) fun ds S1 => ds.length ≤ 1000 ∧ Q (.tup ds) S1 := by
  unfold mTup; simp only [ok_bind]
  constructor <;> refine fun h => h.mono fun ds S1 q => ?_
  · split at q
    · exact ⟨by assumption, ok_some.mp q⟩
    · exact (ok_none.mp q).elim
  · rw [if_pos q.1]; exact ok_some.mpr q.2
theorem w_lst {a : ML} : Ok (mLst a env S) Q ↔ Ok (a env S) fun ds S1 => ds.length ≤ 1000 ∧ Q (.lst ds) S1 := by
  unfold mLst; simp only [ok_bind]
  constructor <;> refine fun h => h.mono fun ds S1 q => ?_
  · split at q
    · exact ⟨by assumption, ok_some.mp q⟩
    · exact (ok_none.mp q).elim
  · rw [if_pos q.1]; exact ok_some.mpr q.2
theorem w_call {φ : Phi} {a : ML} : Ok (mCall φ a env S) Q ↔ Ok (a env S) fun ds S1 => Ok (φ ds S1) Q := by unfold mCall; simp only [ok_bind]
theorem w_callB {φ : Phi} {a : ML} : Ok (mCallB φ a env S) Q ↔ Ok (a env S) fun ds S1 => Ok (φ ds S1) fun d S2 => d.flat = true ∧ Q d S2 := by
  unfold mCallB; simp only [ok_bind]
  constructor <;> refine fun h => h.mono fun ds S1 q => q.mono fun d S2 q => ?_
  · split at q
    · exact ⟨by assumption, ok_some.mp q⟩
    · exact (ok_none.mp q).elim
  · rw [if_pos q.1]; exact ok_some.mpr q.2
theorem w_b {g : List Dat → Option Dat} {a : ML} : Ok (mB g a env S) Q ↔ Ok (a env S) fun ds S1 => Pu (g ds) fun z => Q z S1 := by unfold mB; simp only [ok_bind, ok_mapP]
theorem w_nop : Ok (mNoP env S) QO ↔ QO none S := ok_some
theorem w_p {a : M} : Ok (mP a env S) QO ↔ Ok (a env S) fun d S1 => isI d fun i => QO (some i) S1 := by
  unfold mP; simp only [ok_bind]
  constructor <;> refine fun h => h.mono fun d S1 q => ?_
  · cases d <;> first | exact ok_some.mp q | exact (ok_none.mp q).elim
  · cases d <;> first | exact ok_some.mpr q | exact q.elim
theorem w_sl {a : M} {l h : MO} : Ok (mSl a l h env S) Q ↔ Ok (a env S) fun x S1 => Ok (l env S1) fun lo S2 => Ok (h env S2) fun hi S3 => Pu (gSl x lo hi) fun w => Q w S3 := by unfold mSl; simp only [ok_bind, ok_mapP]
theorem w_rev {a : M} : Ok (mRev a env S) Q ↔ Ok (a env S) fun x S1 => Pu (gRev x) fun w => Q w S1 := by unfold mRev; simp only [ok_bind, ok_mapP]
theorem w_m {g : Str → List Dat → Option Dat} {a : M} {b : ML} : Ok (mM g a b env S) Q ↔ Ok (a env S) fun x S1 => isS x fun z => Ok (b env S1) fun ds S2 => Pu (g z ds) fun w => Q w S2 := by
  unfold mM; simp only [ok_bind]
  constructor <;> refine fun h => h.mono fun d S1 q => ?_
  · cases d <;> first | exact (ok_none.mp q).elim | (simp only [ok_bind, ok_mapP] at q; exact q)
  · cases d <;> first | exact q.elim | (simp only [ok_bind, ok_mapP]; exact q)
theorem w_is {T : String} {a : M} : Ok (mIs T a env S) Q ↔ Ok (a env S) fun d S1 => Pu (isTy T d) fun b => Q (.bl b) S1 := by unfold mIs; simp only [ok_bind, ok_mapP]
theorem w_test {a : M} : Ok (mTest a env S) QT ↔ Ok (a env S) fun d S1 => isB d fun b => QT b S1 := by
  unfold mTest; simp only [ok_bind]
  constructor <;> refine fun h => h.mono fun d S1 q => ?_
  · cases d <;> first | exact ok_some.mp q | exact (ok_none.mp q).elim
  · cases d <;> first | exact ok_some.mpr q | exact q.elim
theorem w_tru {a : M} : Ok (mTru a env S) QT ↔ Ok (a env S) fun d S1 => Pu (dTru d) fun b => QT b S1 := by unfold mTru; simp only [ok_bind, ok_mapP]
theorem w_notT {a : MT} : Ok (mNotT a env S) QT ↔ Ok (a env S) fun b S1 => QT (!b) S1 := by unfold mNotT; simp only [ok_mapS]
theorem w_andT {a b : MT} : Ok (mAndT a b env S) QT ↔ Ok (a env S) fun t S1 => if t = true then Ok (b env S1) QT else QT false S1 := by unfold mAndT; simp only [ok_bind, ok_ite, ok_some]
theorem w_orT {a b : MT} : Ok (mOrT a b env S) QT ↔ Ok (a env S) fun t S1 => if t = true then QT true S1 else Ok (b env S1) QT := by unfold mOrT; simp only [ok_bind, ok_ite, ok_some]
theorem w_andV {a b : M} : Ok (mAndV a b env S) Q ↔ Ok (a env S) fun d S1 => isB d fun t => if t = true then Ok (b env S1) Q else Q (.bl false) S1 := by
  unfold mAndV; simp only [ok_bind]
  constructor <;> refine fun h => h.mono fun d S1 q => ?_
  · cases d with
    | bl t => cases t with
      | true => exact q
      | false => exact ok_some.mp q
    | _ => exact (ok_none.mp q).elim
  · cases d with
    | bl t => cases t with
      | true => exact q
      | false => exact ok_some.mpr q
    | _ => exact q.elim
theorem w_notV {a : M} : Ok (mNotV a env S) Q ↔ Ok (a env S) fun d S1 => Pu (dTru d) fun b => Q (.bl (!b)) S1 := by unfold mNotV; simp only [ok_bind, ok_mapP]
theorem w_ifE {c : MT} {a b : M} : Ok (mIfE c a b env S) Q ↔ Ok (c env S) fun t S1 => if t = true then Ok (a env S1) Q else Ok (b env S1) Q := by unfold mIfE; simp only [ok_bind, ok_ite]
theorem w_chain {g g' : Dat → Dat → Option Dat} {a b c : M} : Ok (mChain g g' a b c env S) Q ↔ Ok (a env S) fun x S1 => Ok (b env S1) fun y S2 => Pu (g x y) fun d => isB d fun t => if t = true then Ok (c env S2) fun z S3 => Pu (g' y z) fun w => Q w S3 else Q (.bl false) S2 := by
  unfold mChain; simp only [ok_bind]
  constructor <;> refine fun h => h.mono fun x S1 q => q.mono fun y S2 q => ?_
  · cases e : g x y with
    | none => simp only [e] at q; exact (ok_none.mp q).elim
    | some d =>
      simp only [e] at q
      refine pu_some.mpr ?_
      cases d with
      | bl t => cases t with
        | true => simpa only [ok_bind, ok_mapP, isB_bl, if_true] using q
        | false => exact ok_some.mp q
      | _ => exact (ok_none.mp q).elim
  · obtain ⟨d, e, q⟩ := q
    simp only [e]
    cases d with
    | bl t => cases t with
      | true => simpa only [ok_bind, ok_mapP, isB_bl, if_true] using q
      | false => exact ok_some.mpr q
    | _ => exact q.elim
theorem w_neg {a : M} : Ok (mNeg a env S) Q ↔ Ok (a env S) fun d S1 => isI d fun i => Q (.int (-i)) S1 := by
  unfold mNeg; simp only [ok_bind]
  constructor <;> refine fun h => h.mono fun d S1 q => ?_
  · cases d <;> first | exact ok_some.mp q | exact (ok_none.mp q).elim
  · cases d <;> first | exact ok_some.mpr q | exact q.elim
theorem w_it {a : M} : Ok (mIt a env S) QL ↔ Ok (a env S) fun d S1 => Pu (itemsD d) fun ds => QL ds S1 := by unfold mIt; simp only [ok_bind, ok_mapP]
theorem w_rng1 {a : ML} : Ok (mRng1 a env S) QL ↔ Ok (a env S) fun ds S1 => ∃ d, ds = [d] ∧ Pu (rngOf [d]) fun r => QL r S1 := by
  unfold mRng1; simp only [ok_bind]
  constructor <;> refine fun h => h.mono fun ds S1 q => ?_
  · match ds, q with
    | [], q => exact (ok_none.mp q).elim
    | [d], q => exact ⟨d, rfl, ok_mapP.mp q⟩
    | _ :: _ :: _, q => exact (ok_none.mp q).elim
  · obtain ⟨d, rfl, q⟩ := q
    exact ok_mapP.mpr q
theorem w_rng2 {a : ML} : Ok (mRng2 a env S) QL ↔ Ok (a env S) fun ds S1 => ∃ d e, ds = [d, e] ∧ Pu (rngOf [d, e]) fun r => QL r S1 := by
  unfold mRng2; simp only [ok_bind]
  constructor <;> refine fun h => h.mono fun ds S1 q => ?_
  · match ds, q with
    | [], q => exact (ok_none.mp q).elim
    | [d], q => exact (ok_none.mp q).elim
    | [d, e], q => exact ⟨d, e, rfl, ok_mapP.mp q⟩
    | _ :: _ :: _ :: _, q => exact (ok_none.mp q).elim
  · obtain ⟨d, e, rfl, q⟩ := q
    exact ok_mapP.mpr q
theorem w_lc {mi : ML} {b : MG} {c : MT} {e : M} {vs : List Nat} : Ok (mLc mi b c e vs env S) Q ↔ Ok (mi env S) fun ds S1 => Ok (lcGo b c e (wipeE env vs) ds S1) fun w S2 => Q (.lst w) S2 := by unfold mLc; simp only [ok_bind, ok_mapS]
theorem w_lc2 {mi mi1 : ML} {b b1 : MG} {c c1 : MT} {e : M} {vs vs1 : List Nat} : Ok (mLc2 mi b c mi1 b1 c1 e vs vs1 env S) Q ↔ Ok (mi env S) fun ds S1 => Ok (lcGo2 b c mi1 b1 c1 e vs1 (wipeE env vs) ds S1) fun w S2 => w.length ≤ 1000 ∧ Q (.lst w) S2 := by
  unfold mLc2; simp only [ok_bind]
  constructor <;> refine fun h => h.mono fun ds S1 q => q.mono fun w S2 q => ?_
  · split at q
    · exact ⟨by assumption, ok_some.mp q⟩
    · exact (ok_none.mp q).elim
  · rw [if_pos q.1]; exact ok_some.mpr q.2
theorem w_sortSet {a : M} : Ok (mSortSet a env S) Q ↔ Ok (a env S) fun d S1 => ∃ ds xs, d = .lst ds ∧ toStrs ds = some xs ∧ xs.length < 60 ∧ Q (.lst ((sortS (metS xs)).map .str)) S1 := by
  unfold mSortSet; simp only [ok_bind]
  constructor <;> refine fun h => h.mono fun d S1 q => ?_
  · cases d with
    | lst ds =>
      cases ex : toStrs ds with
      | none => simp only [ex] at q; exact (ok_none.mp q).elim
      | some xs =>
        simp only [ex, Option.bind_some] at q
        split at q
        · exact ⟨ds, xs, rfl, ex, by assumption, ok_some.mp q⟩
        · exact (ok_none.mp q).elim
    | _ => exact (ok_none.mp q).elim
  · obtain ⟨ds, xs, rfl, e, h, q⟩ := q
    simp only [e, Option.bind_some, if_pos h]
    exact ok_some.mpr q
theorem w_yes : Ok (mYes env S) QT ↔ QT true S := ok_some
/-! statements -/
def seqK (b : MS') (QS : Fl → Sm → Prop) : Fl → Sm → Prop
  | .nx e, S => Ok (b e S) QS
  | f, S => QS f S
theorem seqK_nx {b : MS'} {e : DEnv} : seqK b QS (.nx e) S ↔ Ok (b e S) QS := Iff.rfl
theorem seqK_rt {b : MS'} {d : Dat} : seqK b QS (.rt d) S ↔ QS (.rt d) S := Iff.rfl
theorem seqK_bk {b : MS'} {e : DEnv} : seqK b QS (.bk e) S ↔ QS (.bk e) S := Iff.rfl
theorem seqK_ct {b : MS'} {e : DEnv} : seqK b QS (.ct e) S ↔ QS (.ct e) S := Iff.rfl
theorem w_seq {a b : MS'} : Ok (mSeq a b env S) QS ↔ Ok (a env S) (seqK b QS) := by
  unfold mSeq; simp only [ok_bind]
  constructor <;> refine fun h => h.mono fun f S1 q => ?_ <;> cases f <;> first | exact q | (simp only [ok_some] at q; exact q) | (simp only [ok_some]; exact q)
theorem w_next : Ok (mNext env S) QS ↔ QS (.nx env) S := ok_some
theorem w_bk : Ok (mBk env S) QS ↔ QS (.bk env) S := ok_some
theorem w_ct : Ok (mCt env S) QS ↔ QS (.ct env) S := ok_some
theorem w_no : Ok (mNo env S) QS ↔ False := ok_none
theorem w_if {c : MT} {a b : MS'} : Ok (mIf c a b env S) QS ↔ Ok (c env S) fun t S1 => if t = true then Ok (a env S1) QS else Ok (b env S1) QS := by unfold mIf; simp only [ok_bind, ok_ite]
theorem w_set {i : Nat} {a : M} : Ok (mSet i a env S) QS ↔ Ok (a env S) fun d S1 => i < env.length ∧ QS (.nx (env.set i (.fz d))) S1 := by
  unfold mSet; simp only [ok_bind]
  constructor <;> refine fun h => h.mono fun ds S1 q => ?_
  · split at q
    · exact ⟨by assumption, ok_some.mp q⟩
    · exact (ok_none.mp q).elim
  · rw [if_pos q.1]; exact ok_some.mpr q.2
theorem w_setN {i : Nat} {a : M} : Ok (mSetN i a env S) QS ↔ Ok (a env S) fun d S1 => i < env.length ∧ QS (.nx (env.set i (.ow d))) S1 := by
  unfold mSetN; simp only [ok_bind]
  constructor <;> refine fun h => h.mono fun ds S1 q => ?_
  · split at q
    · exact ⟨by assumption, ok_some.mp q⟩
    · exact (ok_none.mp q).elim
  · rw [if_pos q.1]; exact ok_some.mpr q.2
theorem w_asg {b : MG} {a : M} : Ok (mAsg b a env S) QS ↔ Ok (a env S) fun d S1 => Pu (b d env) fun env1 => QS (.nx env1) S1 := by unfold mAsg; simp only [ok_bind, ok_mapP]
theorem w_ret {a : M} : Ok (mRet a env S) QS ↔ Ok (a env S) fun d S1 => QS (.rt d) S1 := by unfold mRet; simp only [ok_mapS]
theorem w_retV {i : Nat} : Ok (mRetV i env S) QS ↔ ∃ d, (env[i]? = some (.fz d) ∨ env[i]? = some (.ow d)) ∧ QS (.rt d) S := by
  unfold mRetV
  split
  · rename_i d h; rw [ok_some]; exact ⟨fun q => ⟨d, .inl h, q⟩, fun ⟨d', e, q⟩ => by rw [h] at e; rcases e with e | e <;> cases e; exact q⟩
  · rename_i d h; rw [ok_some]; exact ⟨fun q => ⟨d, .inr h, q⟩, fun ⟨d', e, q⟩ => by rw [h] at e; rcases e with e | e <;> cases e; exact q⟩
  · rename_i h1 h2; rw [ok_none]; exact ⟨False.elim, fun ⟨d, e, _⟩ => e.elim (h1 d) (h2 d)⟩
theorem w_retN : Ok (mRetN env S) QS ↔ QS (.rt .non) S := ok_some
theorem w_drop {a : M} : Ok (mDrop a env S) QS ↔ Ok (a env S) fun d S1 => QS (.nx env) S1 := by unfold mDrop; simp only [ok_mapS]
theorem w_frzOw {i : Nat} {a : MS'} {d : Dat} (h : env[i]? = some (.ow d)) : Ok (mFrz i a env S) QS ↔ Ok (a (env.set i (.fz d)) S) QS := by unfold mFrz; rw [h]
theorem w_app {i : Nat} {a : M} : Ok (mApp i a env S) QS ↔ ∃ ds, env[i]? = some (.ow (.lst ds)) ∧ Ok (a env S) fun d S1 => ds.length < 1000000 ∧ QS (.nx (env.set i (.ow (.lst (ds ++ [d]))))) S1 := by
  unfold mApp
  split
  · rename_i ds h
    simp only [ok_bind]
    constructor
    · refine fun q => ⟨ds, h, q.mono fun d S1 q => ?_⟩
      split at q
      · exact ⟨by assumption, ok_some.mp q⟩
      · exact (ok_none.mp q).elim
    · rintro ⟨ds', e, q⟩
      rw [h] at e
      cases e
      refine q.mono fun d S1 q => ?_
      rw [if_pos q.1]; exact ok_some.mpr q.2
  · rename_i h; rw [ok_none]; exact ⟨False.elim, fun ⟨ds, e, _⟩ => h ds e⟩
theorem w_ext {i : Nat} {a : M} : Ok (mExt i a env S) QS ↔ ∃ ds, env[i]? = some (.ow (.lst ds)) ∧ Ok (a env S) fun d S1 => ∃ es, d = .lst es ∧ ds.length + es.length < 1000000 ∧ QS (.nx (env.set i (.ow (.lst (ds ++ es))))) S1 := by
  unfold mExt
  split
  · rename_i ds h
    simp only [ok_bind]
    constructor
    · refine fun q => ⟨ds, h, q.mono fun d S1 q => ?_⟩
      cases d with
      | lst es =>
        simp only at q
        split at q
        · exact ⟨es, rfl, by assumption, ok_some.mp q⟩
        · exact (ok_none.mp q).elim
      | _ => exact (ok_none.mp q).elim
    · rintro ⟨ds', e, q⟩
      rw [h] at e
      cases e
      refine q.mono fun d S1 q => ?_
      obtain ⟨es, rfl, h1, q⟩ := q
      simp only [if_pos h1]; exact ok_some.mpr q
  · rename_i h; rw [ok_none]; exact ⟨False.elim, fun ⟨ds, e, _⟩ => h ds e⟩
theorem w_for {mi : ML} {b : MG} {body : MS'} : Ok (mFor mi b body env S) QS ↔ Ok (mi env S) fun ds S1 => Ok (forGo b body ds env S1) QS := by unfold mFor; simp only [ok_bind]
def outP : Fl → (Dat → Prop) → Prop
  | .rt d, Q => Q d
  | .nx _, Q => Q .non
  | _, _ => False
theorem outP_rt {d : Dat} {Q : Dat → Prop} : outP (.rt d) Q ↔ Q d := Iff.rfl
theorem outP_nx {e : DEnv} {Q : Dat → Prop} : outP (.nx e) Q ↔ Q .non := Iff.rfl
theorem w_run {N : List Str} {n : Nat} {m : MS'} {ds : List Dat} : Ok (runM N n m ds S) Q ↔ ds.length = n ∧ Ok (m (initE N ds) S) fun f S1 => outP f fun d => Q d S1 := by
  unfold runM
  split
  · rename_i h
    constructor
    · rintro ⟨a, S1, e, q⟩
      refine ⟨h, ?_⟩
      cases em : m (initE N ds) S with
      | none => rw [em] at e; cases e
      | some x =>
        obtain ⟨f, S2⟩ := x
        rw [em] at e
        refine ok_some.mpr ?_
        cases f with
        | rt d => cases e; exact q
        | nx _ => cases e; exact q
        | bk _ => cases e
        | ct _ => cases e
    · rintro ⟨_, f, S1, e, q⟩
      rw [e]
      cases f with
      | rt d => exact ok_some.mpr q
      | nx _ => exact ok_some.mpr q
      | bk _ => exact q.elim
      | ct _ => exact q.elim
  · rename_i h
    rw [ok_none]
    exact ⟨False.elim, fun q => h q.1⟩
theorem w_str {i : Nat} {j : Int} : Ok (mStr i j env S) Q ↔ S.scr.length ≤ 1000 ∧ env[i]? = some (.fz .strm) ∧ (if j = 0 then Q (.lst (S.scr.map .int)) S else if j = 1 then Q (.int S.cell) S else if j = 2 then Q (.int S.k) S else False) := by
  unfold mStr
  split
  · rename_i hz
    unfold mStrI
    split
    · rename_i h
      rw [h]
      split
      · simp only [ok_some, hz, true_and]
      · split
        · simp only [ok_some, hz, true_and]
        · split
          · simp only [ok_some, hz, true_and]
          · simp only [ok_none, and_false]
    · rename_i h
      rw [ok_none]
      exact ⟨False.elim, fun ⟨_, e, _⟩ => h e⟩
  · rename_i hz
    rw [ok_none]
    exact ⟨False.elim, fun ⟨e, _⟩ => hz e⟩
theorem w_strP {i : Nat} {j : Int} {a : M} : Ok (mStrP i j a env S) QS ↔ Ok (a env S) fun d S1 => env[i]? = some (.fz .strm) ∧ isI d fun n => if j = 1 then QS (.nx env) { S1 with cell := n } else if j = 2 then QS (.nx env) { S1 with k := n } else False := by
  unfold mStrP; simp only [ok_bind]
  constructor <;> refine fun h => h.mono fun d S1 q => ?_
  · cases he : env[i]? with
    | none => simp only [he, ok_none] at q
    | some sl =>
      cases sl with
      | fz e => cases e with
        | strm => cases d with
          | int n => simp only [he, ok_ite, ok_some, ok_none] at q; exact ⟨rfl, q⟩
          | _ => simp only [he, ok_none] at q
        | _ => simp only [he, ok_none] at q
      | _ => simp only [he, ok_none] at q
  · obtain ⟨h1, q⟩ := q
    cases d with
    | int n => simp only [h1, ok_ite, ok_some, ok_none]; exact q
    | _ => exact q.elim
end
end PD

namespace PD
open PySem PySem.Spec PyProof.Rows L2
theorem isTy_int_non : isTy "int" .non = some false := by first | rfl | decide +kernel
theorem isTy_int_bl {b : Bool} : isTy "int" (.bl b) = some true := by first | rfl | decide +kernel
theorem isTy_int_int {i : Int} : isTy "int" (.int i) = some true := by first | rfl | decide +kernel
theorem isTy_int_str {x : Str} : isTy "int" (.str x) = some false := by first | rfl | decide +kernel
theorem isTy_int_tup {ds : List Dat} : isTy "int" (.tup ds) = some false := by first | rfl | decide +kernel
theorem isTy_int_lst {ds : List Dat} : isTy "int" (.lst ds) = some false := by first | rfl | decide +kernel
theorem isTy_bool_non : isTy "bool" .non = some false := by first | rfl | decide +kernel
theorem isTy_bool_bl {b : Bool} : isTy "bool" (.bl b) = some true := by first | rfl | decide +kernel
theorem isTy_bool_int {i : Int} : isTy "bool" (.int i) = some false := by first | rfl | decide +kernel
theorem isTy_bool_str {x : Str} : isTy "bool" (.str x) = some false := by first | rfl | decide +kernel
theorem isTy_bool_tup {ds : List Dat} : isTy "bool" (.tup ds) = some false := by first | rfl | decide +kernel
theorem isTy_bool_lst {ds : List Dat} : isTy "bool" (.lst ds) = some false := by first | rfl | decide +kernel
theorem isTy_str_non : isTy "str" .non = some false := by first | rfl | decide +kernel
theorem isTy_str_bl {b : Bool} : isTy "str" (.bl b) = some false := by first | rfl | decide +kernel
theorem isTy_str_int {i : Int} : isTy "str" (.int i) = some false := by first | rfl | decide +kernel
theorem isTy_str_str {x : Str} : isTy "str" (.str x) = some true := by first | rfl | decide +kernel
theorem isTy_str_tup {ds : List Dat} : isTy "str" (.tup ds) = some false := by first | rfl | decide +kernel
theorem isTy_str_lst {ds : List Dat} : isTy "str" (.lst ds) = some false := by first | rfl | decide +kernel
theorem isTy_tuple_non : isTy "tuple" .non = some false := by first | rfl | decide +kernel
theorem isTy_tuple_bl {b : Bool} : isTy "tuple" (.bl b) = some false := by first | rfl | decide +kernel
theorem isTy_tuple_int {i : Int} : isTy "tuple" (.int i) = some false := by first | rfl | decide +kernel
theorem isTy_tuple_str {x : Str} : isTy "tuple" (.str x) = some false := by first | rfl | decide +kernel
theorem isTy_tuple_tup {ds : List Dat} : isTy "tuple" (.tup ds) = some true := by first | rfl | decide +kernel
theorem isTy_tuple_lst {ds : List Dat} : isTy "tuple" (.lst ds) = some false := by first | rfl | decide +kernel
theorem isTy_list_non : isTy "list" .non = some false := by first | rfl | decide +kernel
theorem isTy_list_bl {b : Bool} : isTy "list" (.bl b) = some false := by first | rfl | decide +kernel
theorem isTy_list_int {i : Int} : isTy "list" (.int i) = some false := by first | rfl | decide +kernel
theorem isTy_list_str {x : Str} : isTy "list" (.str x) = some false := by first | rfl | decide +kernel
theorem isTy_list_tup {ds : List Dat} : isTy "list" (.tup ds) = some false := by first | rfl | decide +kernel
theorem isTy_list_lst {ds : List Dat} : isTy "list" (.lst ds) = some true := by first | rfl | decide +kernel
theorem dTru_bl {b : Bool} : dTru (.bl b) = some b := rfl
theorem dTru_int {i : Int} : dTru (.int i) = some (i != 0) := rfl
theorem dTru_non : dTru .non = some false := rfl
theorem dTru_tup {ds : List Dat} : dTru (.tup ds) = some (!ds.isEmpty) := rfl
theorem dTru_lst {ds : List Dat} : dTru (.lst ds) = some (!ds.isEmpty) := rfl
theorem dTru_str {x : Str} : dTru (.str x) = some ((x.length : Int) != 0) := rfl
section
variable {Q : Dat → Prop}
theorem pu_iteP {c : Prop} [Decidable c] {d : Dat} : Pu (if c then some d else none) Q ↔ c ∧ Q d := by
  split
  · rename_i h; simp only [pu_some, h, true_and]
  · rename_i h; simp only [pu_none, h, false_and]
theorem pu_iteA {α : Type} {R : α → Prop} {c : Prop} [Decidable c] {d : α} : Pu (if c then some d else none) R ↔ c ∧ R d := by
  by_cases h : c
  · rw [if_pos h, pu_some]; exact ⟨fun q => ⟨h, q⟩, fun q => q.2⟩
  · rw [if_neg h, pu_none]; exact ⟨False.elim, fun q => h q.1⟩
theorem gI_ {C : Int → Int → Bool} {f : Int → Int → Dat} {i j : Int} : Pu (gI C f (.int i) (.int j)) Q ↔ C i j = true ∧ Q (f i j) := pu_iteP
theorem gMul_int {i j : Int} : Pu (gMul (.int i) (.int j)) Q ↔ cMul i j = true ∧ Q (.int (i * j)) := by
  show Pu (match (if cMul i j = true then some (Dat.int (i * j)) else none) with | some z => some z | none => none) Q ↔ _
  by_cases h : cMul i j = true
  · rw [if_pos h]; exact ⟨fun q => ⟨h, pu_some.mp q⟩, fun q => pu_some.mpr q.2⟩
  · rw [if_neg h]; exact ⟨fun q => (pu_none.mp q).elim, fun q => (h q.1).elim⟩
theorem gMul_str {x : Str} {n : Int} : Pu (gMul (.str x) (.int n)) Q ↔ (x.length ≤ 1000 ∧ -1000 ≤ n ∧ n ≤ 1000) ∧ Q (.str (Txt.mul x n)) := pu_iteP
theorem gI0_ {f : Int → Int → Dat} {i j : Int} : Pu (gI0 f (.int i) (.int j)) Q ↔ Q (f i j) := pu_some
theorem gAdd_int {i j : Int} : Pu (gAdd (.int i) (.int j)) Q ↔ Q (.int (i + j)) := pu_some
theorem gAdd_str {x y : Str} : Pu (gAdd (.str x) (.str y)) Q ↔ x.length + y.length ≤ sizeLine ∧ Q (.str (x ++ y)) := by
  show Pu (match (if x.length + y.length ≤ sizeLine then some (Dat.str (x ++ y)) else none) with | some z => some z | none => none) Q ↔ _
  by_cases h : x.length + y.length ≤ sizeLine
  · rw [if_pos h]; exact ⟨fun q => ⟨h, pu_some.mp q⟩, fun q => pu_some.mpr q.2⟩
  · rw [if_neg h]; exact ⟨fun q => (pu_none.mp q).elim, fun q => (h q.1).elim⟩
theorem gAdd_tup {x y : List Dat} : Pu (gAdd (.tup x) (.tup y)) Q ↔ x.length + y.length ≤ 100000 ∧ Q (.tup (x ++ y)) := pu_iteP
theorem gLt_int {i j : Int} : Pu (gLt (.int i) (.int j)) Q ↔ Q (.bl (decide (i < j))) := pu_some
theorem gLe_int {i j : Int} : Pu (gLe (.int i) (.int j)) Q ↔ Q (.bl (decide (i ≤ j))) := pu_some
theorem gGt_int {i j : Int} : Pu (gGt (.int i) (.int j)) Q ↔ Q (.bl (decide (j < i))) := pu_some
theorem gGe_int {i j : Int} : Pu (gGe (.int i) (.int j)) Q ↔ Q (.bl (decide (j ≤ i))) := pu_some
theorem gLen_str {x : Str} : Pu (gLen [.str x]) Q ↔ Q (.int x.length) := pu_some
theorem gLen_lst {x : List Dat} : Pu (gLen [.lst x]) Q ↔ Q (.int x.length) := pu_some
theorem gLen_tup {x : List Dat} : Pu (gLen [.tup x]) Q ↔ Q (.int x.length) := pu_some
theorem gAbs_ {i : Int} : Pu (gAbs [.int i]) Q ↔ Q (.int (if i < 0 then -i else i)) := pu_some
theorem gIntOf_int {i : Int} : Pu (gIntOf [.int i]) Q ↔ Q (.int i) := pu_some
theorem gIx_lst {ds : List Dat} {i : Int} : Pu (gIx (.lst ds) (.int i)) Q ↔ Pu (atI ds i) Q := Iff.rfl
theorem gIx_tup {ds : List Dat} {i : Int} : Pu (gIx (.tup ds) (.int i)) Q ↔ Pu (atI ds i) Q := Iff.rfl
theorem gIx_str {x : Str} {i : Int} : Pu (gIx (.str x) (.int i)) Q ↔ Pu (atI x.cps.toList i) fun c => Q (.str ⟨#[c]⟩) := by
  show Pu ((atI x.cps.toList i).map fun c => Dat.str ⟨#[c]⟩) Q ↔ _
  cases atI x.cps.toList i with
  | none => exact ⟨fun h => (pu_none.mp h).elim, fun h => (pu_none.mp h).elim⟩
  | some c => rw [pu_some]; exact pu_some
theorem gSl_lst {ds : List Dat} {lo hi : Option Int} : Pu (gSl (.lst ds) lo hi) Q ↔ Q (.lst (cutD ds lo hi)) := pu_some
theorem gSl_tup {ds : List Dat} {lo hi : Option Int} : Pu (gSl (.tup ds) lo hi) Q ↔ Q (.tup (cutD ds lo hi)) := pu_some
theorem gSl_str {x : Str} {lo hi : Option Int} : Pu (gSl (.str x) lo hi) Q ↔ Q (.str (cutS x lo hi)) := pu_some
theorem gRev_lst {ds : List Dat} : Pu (gRev (.lst ds)) Q ↔ Q (.lst ds.reverse) := pu_some
theorem gRev_tup {ds : List Dat} : Pu (gRev (.tup ds)) Q ↔ Q (.tup ds.reverse) := pu_some
theorem gRev_str {x : Str} : Pu (gRev (.str x)) Q ↔ Q (.str (revS x)) := pu_some
theorem gLstA_lst {ds : List Dat} : Pu (gLstA [.lst ds]) Q ↔ Q (.lst ds) := pu_some
theorem gLstA_tup {ds : List Dat} : Pu (gLstA [.tup ds]) Q ↔ Q (.lst ds) := pu_some
theorem gLstA_str {x : Str} : Pu (gLstA [.str x]) Q ↔ x.length ≤ 1000 ∧ Q (.lst (signsD x)) := pu_iteP
theorem gTupA_lst {ds : List Dat} : Pu (gTupA [.lst ds]) Q ↔ Q (.tup ds) := pu_some
theorem gTupA_tup {ds : List Dat} : Pu (gTupA [.tup ds]) Q ↔ Q (.tup ds) := pu_some
theorem toBls_map : ∀ bs : List Bool, toBls (bs.map .bl) = some bs
  | [] => rfl
  | b :: bs => by show (toBls (bs.map .bl)).map (b :: ·) = _; rw [toBls_map bs]; rfl
theorem toStrs_map : ∀ bs : List Str, toStrs (bs.map .str) = some bs
  | [] => rfl
  | b :: bs => by show (toStrs (bs.map .str)).map (b :: ·) = _; rw [toStrs_map bs]; rfl
theorem toInts_map : ∀ bs : List Int, toInts (bs.map .int) = some bs
  | [] => rfl
  | b :: bs => by show (toInts (bs.map .int)).map (b :: ·) = _; rw [toInts_map bs]; rfl
theorem toPairs_map : ∀ bs : List (Str × Int), toPairs (bs.map pairD) = some bs
  | [] => rfl
  | b :: bs => by show (toPairs (bs.map pairD)).map ((b.1, b.2) :: ·) = _; rw [toPairs_map bs]; rfl
theorem gAll_ {bs : List Bool} : Pu (gAll [.lst (bs.map .bl)]) Q ↔ Q (.bl (bs.all id)) := by
  show Pu ((toBls (bs.map .bl)).map (fun ns => Dat.bl (ns.all id))) Q ↔ _
  rw [toBls_map]; exact pu_some
theorem gAny_ {bs : List Bool} : Pu (gAny [.lst (bs.map .bl)]) Q ↔ Q (.bl (bs.any id)) := by
  show Pu ((toBls (bs.map .bl)).map (fun ns => Dat.bl (ns.any id))) Q ↔ _
  rw [toBls_map]; exact pu_some
theorem gSum_ {bs : List Int} : Pu (gSum [.lst (bs.map .int)]) Q ↔ Q (.int bs.sum) := by
  show Pu ((toInts (bs.map .int)).map (fun ns => Dat.int ns.sum)) Q ↔ _
  rw [toInts_map]; exact pu_some
theorem gSortA_strs {xs : List Str} : Pu (gSortA [.lst (xs.map .str)]) Q ↔ xs.length < 64 ∧ Q (.lst ((sortS xs).map .str)) := by unfold gSortA; simp only [toStrs_map]; exact pu_iteP
theorem gSortA_pairs {b : Str × Int} {bs : List (Str × Int)} : Pu (gSortA [.lst ((b :: bs).map pairD)]) Q ↔ (b :: bs).length ≤ 1000 ∧ Q (.lst ((sortP (b :: bs)).map pairD)) := by
  unfold gSortA
  have h : toStrs ((b :: bs).map pairD) = none := rfl
  simp only [h, toPairs_map]
  exact pu_iteP
theorem gJoin_lst {a : Str} {ys : List Str} : Pu (gJoin a [.lst (ys.map .str)]) Q ↔ (joinLen a ys ≤ 16777216 ∧ (joinS a ys).length ≤ 16777216) ∧ Q (.str (joinS a ys)) := by
  unfold gJoin
  simp only [toStrs_map, Option.bind_some]
  exact pu_iteP
theorem gEq_int {n : Bool} {i j : Int} : Pu (gEq n (.int i) (.int j)) Q ↔ Q (.bl (xor n (decide (i = j)))) := by
  have e : gEq n (.int i) (.int j) = some (.bl (xor n (PyData.eqv (.int i) (.int j)))) := rfl
  rw [e, pu_some]; rfl
/-- a text of small signs -/
def SmS (x : Str) : Prop := ∀ c ∈ x.cps.toList, c < 1114112
theorem SmS.can {x : Str} (h : SmS x) : PyData.canLay0 (.str x) = true := by
  show x.cps.all (fun c => decide (c < 1114112)) = true
  rw [← Array.all_toList, List.all_eq_true]
  exact fun c hc => decide_eq_true (h c hc)
theorem SmS.ok {x : Str} (h : SmS x) : SeqAt.shaped (.str x) = true := by
  unfold SeqAt.shaped
  rw [h.can]; rfl
theorem beq_dec (i j : Str) : (i == j) = decide (i = j) := by
  by_cases h : i = j
  · subst h; simp
  · rw [decide_eq_false h, Bool.eq_false_iff]; exact fun e => h (eq_of_beq e)
theorem gEq_str {n : Bool} {i j : Str} (hi : SmS i) (hj : SmS j) : Pu (gEq n (.str i) (.str j)) Q ↔ Q (.bl (xor n (decide (i = j)))) := by
  have e : gEq n (.str i) (.str j) = some (.bl (xor n (PyData.eqv (.str i) (.str j)))) := by
    show (if (SeqAt.shaped (.str i) && SeqAt.shaped (.str j)) = true then _ else _) = _
    rw [hi.ok, hj.ok]; rfl
  rw [e, pu_some, ← beq_dec]; rfl
theorem toPyL_strs : ∀ xs : List Str, toPyL (xs.map .str) = some (xs.map .str)
  | [] => rfl
  | x :: xs => by
    show (match toPy (.str x), toPyL (xs.map .str) with | some x, some xs => some (x :: xs) | _, _ => none) = _
    rw [toPyL_strs xs]; rfl
theorem canL_strs : ∀ {xs : List Str}, (∀ x ∈ xs, SmS x) → PyData.canLayAll0 (xs.map .str) = true
  | [], _ => rfl
  | x :: xs, h => by
    show (PyData.canLay0 (.str x) && PyData.canLayAll0 (xs.map .str)) = true
    rw [(h x List.mem_cons_self).can, canL_strs fun y hy => h y (List.mem_cons_of_mem _ hy)]; rfl
theorem depL_strs : ∀ xs : List Str, PyData.depthAll (xs.map .str) = 0
  | [] => rfl
  | x :: xs => by
    show max (PyData.depth (.str x)) (PyData.depthAll (xs.map .str)) = 0
    rw [depL_strs xs]; rfl
theorem shaped_strs {xs : List Str} (h : ∀ x ∈ xs, SmS x) : SeqAt.shaped (.list (xs.map .str)) = true := by
  unfold SeqAt.shaped
  show (PyData.canLayAll0 (xs.map .str) && decide (PyData.depthAll (xs.map .str) + 1 ≤ 64)) = true
  rw [canL_strs h, depL_strs]; rfl
theorem eqvL_strs : ∀ xs ys : List Str, PyData.eqvAll (xs.map .str) (ys.map .str) = decide (xs = ys)
  | [], [] => rfl
  | [], _ :: _ => rfl
  | _ :: _, [] => rfl
  | x :: xs, y :: ys => by
    show ((x == y) && PyData.eqvAll (xs.map .str) (ys.map .str)) = _
    rw [eqvL_strs xs ys, beq_dec, ← Bool.decide_and]
    exact decide_eq_decide.mpr (by rw [List.cons.injEq])
theorem gEq_strs {n : Bool} {xs ys : List Str} (hx : ∀ x ∈ xs, SmS x) (hy : ∀ x ∈ ys, SmS x) : Pu (gEq n (.lst (xs.map .str)) (.lst (ys.map .str))) Q ↔ Q (.bl (xor n (decide (xs = ys)))) := by
  have e : gEq n (.lst (xs.map .str)) (.lst (ys.map .str)) = some (.bl (xor n (decide (xs = ys)))) := by
    have t : ∀ zs : List Str, toPy (.lst (zs.map .str)) = some (.list (zs.map .str)) := fun zs => by
      show (match toPyL (zs.map .str) with | some xs => some (PyData.list xs) | none => none) = _
      rw [toPyL_strs]
    unfold gEq
    simp only [t, shaped_strs hx, shaped_strs hy, Bool.and_self, if_true]
    rw [show PyData.eqv (.list (xs.map .str)) (.list (ys.map .str)) = PyData.eqvAll (xs.map .str) (ys.map .str) from rfl, eqvL_strs]
  rw [e, pu_some]
theorem gEq_bl {n : Bool} {i j : Bool} : Pu (gEq n (.bl i) (.bl j)) Q ↔ Q (.bl (xor n (i == j))) := by
  cases n <;> cases i <;> cases j <;> exact pu_some
theorem gIs_non {n : Bool} {d : Dat} : Pu (gOr (gIsN n) (gIsB n) d .non) Q ↔ Q (.bl (xor n d.isNon)) := pu_some
theorem gIn_sign {c : Nat} {z : Str} : Pu (gIn (.str ⟨#[c]⟩) (.str z)) Q ↔ Q (.bl (decide (c ∈ z.cps.toList))) := by
  show Pu (some (.bl (xor false (decide (c ∈ z.cps.toList))))) Q ↔ _
  rw [Bool.false_xor]; exact pu_some
theorem all_flat : ∀ xs : List Str, (xs.map Dat.str).all Dat.flat = true
  | [] => rfl
  | _ :: xs => all_flat xs
theorem any_eqF (x : Str) : ∀ xs : List Str, ((xs.map Dat.str).any fun y => eqF y (.str x)) = decide (x ∈ xs)
  | [] => by simp
  | y :: xs => by
    rw [List.map_cons, List.any_cons, any_eqF x xs]
    show ((y == x) || decide (x ∈ xs)) = _
    by_cases h : y = x
    · subst h; simp
    · have h2 : (y == x) = false := by
        rw [Bool.eq_false_iff]; intro e; exact h (eq_of_beq e)
      rw [h2]
      have : x ≠ y := fun e => h e.symm
      simp [this]
theorem gIn_strs {x : Str} {xs : List Str} : Pu (gIn (.str x) (.lst (xs.map .str))) Q ↔ Q (.bl (decide (x ∈ xs))) := by
  have e : gInF false (.str x) (.lst (xs.map .str)) = some (.bl (decide (x ∈ xs))) := by
    unfold gInF
    have h : (Dat.flat (.str x) && (xs.map Dat.str).all Dat.flat) = true := by rw [all_flat]; rfl
    simp only [h, if_true, any_eqF, Bool.false_xor]
  show Pu (gOr (gInF false) _ _ _) Q ↔ _
  unfold gOr
  rw [e]
  exact pu_some
theorem gNotIn_strs {x : Str} {xs : List Str} : Pu (gNotIn (.str x) (.lst (xs.map .str))) Q ↔ Q (.bl (!decide (x ∈ xs))) := by
  have e : gInF true (.str x) (.lst (xs.map .str)) = some (.bl (!decide (x ∈ xs))) := by
    unfold gInF
    have h : (Dat.flat (.str x) && (xs.map Dat.str).all Dat.flat) = true := by rw [all_flat]; rfl
    simp only [h, if_true, any_eqF, Bool.true_xor]
  show Pu (gOr (gInF true) _ _ _) Q ↔ _
  unfold gOr
  rw [e]
  exact pu_some
theorem items_lst {ds : List Dat} {QL : List Dat → Prop} : Pu (itemsD (.lst ds)) QL ↔ QL ds := pu_some
theorem items_tup {ds : List Dat} {QL : List Dat → Prop} : Pu (itemsD (.tup ds)) QL ↔ QL ds := pu_some
theorem items_str {x : Str} {QL : List Dat → Prop} : Pu (itemsD (.str x)) QL ↔ QL (signsD x) := pu_some
theorem rng1_ {j : Int} {QL : List Dat → Prop} : Pu (rngOf [.int j]) QL ↔ (rng62 j && decide (j.toNat ≤ 100000)) = true ∧ QL (rngD 0 j.toNat) := by
  show Pu (if (rng62 j && decide (j.toNat ≤ 100000)) = true then some (rngD 0 j.toNat) else none) QL ↔ _
  exact pu_iteA
theorem rng2_ {i j : Int} {QL : List Dat → Prop} : Pu (rngOf [.int i, .int j]) QL ↔ ((rng62 i && rng62 j) && decide ((j - i).toNat ≤ 100000)) = true ∧ QL (rngD i (j - i).toNat) := by
  show Pu (if ((rng62 i && rng62 j) && decide ((j - i).toNat ≤ 100000)) = true then some (rngD i (j - i).toNat) else none) QL ↔ _
  exact pu_iteA
theorem bNm_ {i : Nat} {d : Dat} {env : DEnv} {QE : DEnv → Prop} {s : Slo} (h : env[i]? = some s) (hs : ∀ e, s ≠ .ow e) : Pu (bNm i d env) QE ↔ QE (env.set i (.fz d)) := by
  unfold bNm
  rw [h]
  cases s with
  | ow e => exact (hs e rfl).elim
  | _ => exact pu_some
end
/-! ### comprehensions, loops -/
theorem lc_pure {α : Type} {b : MG} {c : MT} {e : M} {env : DEnv} {S : Sm} (g : α → Dat) (p : α → Bool) (f : α → Dat) : ∀ xs : List α,
    (∀ a ∈ xs, Pu (b (g a) env) fun env1 => Ok (c env1 S) fun t S1 => S1 = S ∧ t = p a ∧ (p a = true → Ok (e env1 S) fun y S2 => S2 = S ∧ y = f a)) → lcGo b c e env (xs.map g) S = some ((xs.filter p).map f, S)
  | [], _ => rfl
  | a :: xs, h => by
    have ih := lc_pure g p f xs fun a ha => h a (List.mem_cons_of_mem _ ha)
    obtain ⟨env1, h1, t, S1, h2, rfl, rfl, h3⟩ := h a List.mem_cons_self
    rw [List.map_cons]
    unfold lcGo
    rw [h1, Option.bind_some, h2, Option.bind_some]
    by_cases hp : p a = true
    · obtain ⟨y, S2, h4, rfl, rfl⟩ := h3 hp
      simp only [hp, if_true, h4, Option.bind_some, ih, Option.map_some, List.filter_cons, List.map_cons]
    · simp only [hp, if_false, ih, List.filter_cons]
      rfl
theorem ok_lcP {α : Type} {b : MG} {c : MT} {e : M} {env : DEnv} {S : Sm} {QL : List Dat → Sm → Prop} (g : α → Dat) (p : α → Bool) (f : α → Dat) (xs : List α)
    (h : ∀ a ∈ xs, Pu (b (g a) env) fun env1 => Ok (c env1 S) fun t S1 => S1 = S ∧ t = p a ∧ (p a = true → Ok (e env1 S) fun y S2 => S2 = S ∧ y = f a)) (q : QL ((xs.filter p).map f) S) : Ok (lcGo b c e env (xs.map g) S) QL := by
  rw [lc_pure g p f xs h]
  exact ok_some.mpr q
theorem ok_lcM {α : Type} {b : MG} {e : M} {env : DEnv} {S : Sm} {QL : List Dat → Sm → Prop} (g : α → Dat) (f : α → Dat) (xs : List α)
    (h : ∀ a ∈ xs, Pu (b (g a) env) fun env1 => Ok (e env1 S) fun y S2 => S2 = S ∧ y = f a) (q : QL (xs.map f) S) : Ok (lcGo b mYes e env (xs.map g) S) QL := by
  refine ok_lcP g (fun _ => true) f xs (fun a ha => ?_) ?_
  · obtain ⟨env1, h1, h2⟩ := h a ha
    exact ⟨env1, h1, w_yes.mpr ⟨rfl, rfl, fun _ => h2⟩⟩
  · rw [List.filter_eq_self.mpr fun _ _ => rfl]; exact q
inductive Al {α β : Type} (R : α → β → Prop) : List α → List β → Prop
  | nil : Al R [] []
  | cons {a : α} {b : β} {as : List α} {bs : List β} : R a b → Al R as bs → Al R (a :: as) (b :: bs)
theorem Al.len {α β : Type} {R : α → β → Prop} : ∀ {as : List α} {bs : List β}, Al R as bs → as.length = bs.length
  | _, _, .nil => rfl
  | _, _, .cons _ t => congrArg (· + 1) t.len
theorem Al.mem {α β : Type} {R : α → β → Prop} : ∀ {as : List α} {bs : List β}, Al R as bs → ∀ b ∈ bs, ∃ a ∈ as, R a b
  | _, _, .nil, _, h => by cases h
  | _, _, .cons (a := a) r t, b, h => by
    rcases List.mem_cons.mp h with rfl | h
    · exact ⟨a, List.mem_cons_self, r⟩
    · obtain ⟨a', h1, h2⟩ := t.mem b h
      exact ⟨a', List.mem_cons_of_mem _ h1, h2⟩
theorem ok_lcD {α β : Type} {b : MG} {e : M} {env : DEnv} (I : Sm → Prop) (g : α → Dat) (f : β → Dat) (R : α → β → Prop) : ∀ (xs : List α) (S : Sm), I S →
    (∀ a ∈ xs, ∀ S, I S → Pu (b (g a) env) fun env1 => Ok (e env1 S) fun y S2 => I S2 ∧ ∃ z, y = f z ∧ R a z) → Ok (lcGo b mYes e env (xs.map g) S) fun w S' => I S' ∧ ∃ zs, w = zs.map f ∧ Al R xs zs
  | [], S, i, _ => ok_some.mpr ⟨i, [], rfl, .nil⟩
  | a :: xs, S, i, h => by
    obtain ⟨env1, h1, y, S2, h3, i2, z, rfl, r⟩ := h a List.mem_cons_self S i
    obtain ⟨w, S3, h4, i3, zs, rfl, t⟩ := ok_lcD I g f R xs S2 i2 fun a ha => h a (List.mem_cons_of_mem _ ha)
    refine ⟨f z :: zs.map f, S3, ?_, i3, z :: zs, rfl, .cons r t⟩
    rw [List.map_cons]
    unfold lcGo
    simp only [h1, Option.bind_some, mYes, if_true, h3, h4, Option.map_some]
def loopK (K : DEnv → Sm → Prop) (QS : Fl → Sm → Prop) : Fl → Sm → Prop
  | .nx e, S => K e S
  | .ct e, S => K e S
  | .bk e, S => QS (.nx e) S
  | .rt d, S => QS (.rt d) S
section
variable {K : DEnv → Sm → Prop} {QS : Fl → Sm → Prop} {S : Sm} {e : DEnv} {d : Dat}
theorem loopK_nx : loopK K QS (.nx e) S ↔ K e S := Iff.rfl
theorem loopK_ct : loopK K QS (.ct e) S ↔ K e S := Iff.rfl
theorem loopK_bk : loopK K QS (.bk e) S ↔ QS (.nx e) S := Iff.rfl
theorem loopK_rt : loopK K QS (.rt d) S ↔ QS (.rt d) S := Iff.rfl
end
theorem ok_forGo {b : MG} {body : MS'} {QS : Fl → Sm → Prop} (J : List Dat → DEnv → Sm → Prop) (hd : ∀ d ds env S, J (d :: ds) env S → Pu (b d env) fun env1 => Ok (body env1 S) (loopK (J ds) QS)) (h0 : ∀ env S, J [] env S → QS (.nx env) S) :
    ∀ ds env S, J ds env S → Ok (forGo b body ds env S) QS
  | [], env, S, j => ok_some.mpr (h0 env S j)
  | d :: ds, env, S, j => by
    obtain ⟨env1, h1, f, S1, h2, q⟩ := hd d ds env S j
    unfold forGo
    rw [h1, Option.bind_some, h2, Option.bind_some]
    cases f with
    | nx e => exact ok_forGo J hd h0 ds e S1 q
    | ct e => exact ok_forGo J hd h0 ds e S1 q
    | bk e => exact ok_some.mpr q
    | rt d => exact ok_some.mpr q
theorem ok_whGo {c : MT} {body : MS'} {QS : Fl → Sm → Prop} (J : Nat → DEnv → Sm → Prop) (hd : ∀ k env S, J k env S → Ok (c env S) fun t S1 => if t = true then Ok (body env S1) (loopK (fun e S2 => ∃ k', k' < k ∧ J k' e S2) QS) else QS (.nx env) S1) :
    ∀ n k env S, k < n → J k env S → Ok (whGo c body n env S) QS
  | 0, k, env, S, h, _ => by omega
  | n + 1, k, env, S, h, j => by
    obtain ⟨t, S1, h1, q⟩ := hd k env S j
    unfold whGo
    rw [h1, Option.bind_some]
    cases t with
    | false => exact ok_some.mpr q
    | true =>
      obtain ⟨f, S2, h2, q⟩ := q
      simp only [if_true]
      rw [h2, Option.bind_some]
      cases f with
      | nx e => obtain ⟨k', hk, j'⟩ := q; exact ok_whGo J hd n k' e S2 (by omega) j'
      | ct e => obtain ⟨k', hk, j'⟩ := q; exact ok_whGo J hd n k' e S2 (by omega) j'
      | bk e => exact ok_some.mpr q
      | rt d => exact ok_some.mpr q
end PD

namespace PD
open PySem PySem.Spec PyProof.Rows L2
/-! ### tuple * int -/
def rMulF (K : PySem.W.Frag) : R2 := fun x y H Q => ∃ a m ws, x = .ref a ∧ y = .int m ∧ SqT K H a ws ∧ ws ≠ [] ∧ 2 ≤ m ∧ m ≤ 1000 ∧ ws.length ≤ 1000 ∧ ∀ (p : Addr) (ob : Obj), H p = none → ob.dict = none → Q (.ref p) (upd H p (.frz ob (.tup (List.replicate m.toNat ws).flatten)))
theorem op_mulF {X : Cx} : OpR X (binaryOp .Mult) (rMulF X.K) := by
  intro pins s σ H x y v u Q I rx ry z
  obtain ⟨a, m, ws, rfl, rfl, sq, ne, lo, hi, few, q⟩ := z
  cases rx
  obtain ⟨t, rfl⟩ := ry
  obtain ⟨us, r, ⟨⟨cls, dd, data, sl⟩, at_, ec, n, ed⟩, _⟩ := I.tuple sq
  obtain rfl : cls = .type "tuple" := ec
  obtain rfl : data = .seq us.toArray n := ed
  have el : us.length = ws.length := r.length.symm
  have un : us ≠ [] := fun e => ne (List.eq_nil_of_length_eq_zero (by rw [← el, e]; rfl))
  have ue : us.toArray.isEmpty = false := by
    cases us with
    | nil => exact (un rfl).elim
    | cons _ _ => rfl
  have sz : us.toArray.size = ws.length := by rw [List.size_toArray, el]
  have pm : ((us.toArray.size : Nat) : Int) * m ≤ 1000000 := by
    have k1 : ((ws.length : Nat) : Int) * m ≤ 1000 * m := Int.mul_le_mul_of_nonneg_right (by omega) (by omega)
    rw [sz]; omega
  have km : m.toNat * ws.length ≤ 1000 * 1000 := Nat.mul_le_mul (by omega) few
  have fl : ∀ {α : Type} (zs : List α), zs.length = ws.length → (List.replicate m.toNat zs).flatten.length ≤ sizeLine := fun zs e => by
    rw [PyProof.Rows.lm_len_rep_flat, e, sizeLine_eq]; omega
  have d0 : (decide (m < -(2 ^ 63)) || decide (m ≥ 2 ^ 63)) = false := by simp; omega
  have d1 : (us.toArray.isEmpty || m == 1) = false := by rw [ue]; simp; omega
  have d2 : (decide (m ≤ 0) || us.toArray.isEmpty) = false := by rw [ue]; simp; omega
  have d4 : Builtin.Tuple.tupleTooMany (((us.toArray.size : Nat) : Int) * m) = false := by
    unfold Builtin.Tuple.tupleTooMany
    rw [sizeLine_eq]
    exact decide_eq_false (by omega)
  have mul := tuple_mulW a us.toArray n dd sl m t d0 d1 d2 (by omega) d4 (by rw [size_rep, List.size_toArray]; exact fl us el)
  refine wpAny_binaryOp_repeat_ref (T := "tuple") (U := "int") (by decide) ⟨_, at_, rfl⟩ (fun s' => typeIs_int s' m t) noFill_tuple_mul F.fills_int_mul F.slot_int_rmul repeat_tuple F.slot_int_index.lookup ?_
  refine call_meets F.slot_int_rmul (typeIs_int s m t) F.entry_int_rmul (F.args_int_rmul_2 _ _) (int_rmul_tuple m t a us.toArray n dd sl) ⟨at_, rfl, ⟨_, at_, rfl⟩, ?_⟩
  refine call_meets F.slot_tuple_mul ⟨_, at_, rfl⟩ F.entry_tuple_mul (F.args_tuple_mul_2 _ _) mul ⟨at_, ?_⟩
  rw [size_rep]
  exact laid_tupF I (r.rep m.toNat) (fl ws rfl) q
def gMulT : Dat → Dat → Option Dat
  | .tup ds, .int m => if (decide (ds ≠ [] ∧ ds.length ≤ 1000) && decide (2 ≤ m ∧ m ≤ 1000)) = true then some (.tup (List.replicate m.toNat ds).flatten) else none
  | _, _ => none
theorem RepL.rep {O : Addr → Prop} {ps : Addr} {H : Hp} {vs : List V} {ds : List Dat} (l : RepL O ps H vs ds) : ∀ n : Nat, RepL O ps H (List.replicate n vs).flatten (List.replicate n ds).flatten
  | 0 => .nil
  | n + 1 => by
    rw [List.replicate_succ, List.replicate_succ, List.flatten_cons, List.flatten_cons]
    exact l.app (RepL.rep l n)
theorem r2_mulT {K : PySem.W.Frag} : R2S (rMulF K) gMulT := by
  intro O P H S x y d e z Q I rx ry eg q
  unfold gMulT at eg
  split at eg
  · rename_i ds m
    split at eg
    · rename_i h
      cases eg
      rw [Bool.and_eq_true, decide_eq_true_eq, decide_eq_true_eq] at h
      obtain ⟨⟨h1, h2⟩, h3, h4⟩ := h
      obtain ⟨a, xs, rfl, k1, z1, l1, n1⟩ := rx.tup
      cases ry.int
      refine ⟨a, m, xs, rfl, rfl, k1.sq, fun e => ?_, h3, h4, by rw [l1.len]; exact h2, fun p ob n d => q _ _ (.new n) (I.sm.new n) (.tup (.new d) (not_own I n) ?_ (repL_new (l1.rep _) n))⟩
      · subst e
        cases l1
        exact h1 rfl
      · have km : m.toNat * xs.length ≤ 1000 * 1000 := Nat.mul_le_mul (by omega) (by rw [l1.len]; exact h2)
        rw [PyProof.Rows.lm_len_rep_flat, sizeLine_eq]
        omega
    · cases eg
  · cases eg
theorem po_mulT {X : Cx} {K : PySem.W.Frag} (hK : X.K = K := by rfl) : PDO X (binaryOp .Mult) (rMulF K) gMulT := by
  subst hK
  exact ⟨op_mulF, r2_mulT⟩
/-! ### name = [.. for .. for ..] -/
theorem pds_setLc2 {X : Cx} {i : Nat} {x : Str} {pos' spos : Pos} {elt tg iter tg1 iter1 : Expr} {ifs ifs1 : List Expr} {scope : Scope} {own : List (Str × Nat)} {vs1 : List Nat} {pos : Pos} {wi wi1 : TI} {g g1 : TG} {tt tt1 : TT} {te : TE} {mi mi1 : ML} {ix ix1 : List Nat} {b b1 : MG} {c c1 : MT} {m : M}
    (hc : X.calm = true) (hN : X.N.Nodup) (hy : X.N[i]? = some x) (hyl : X.env.scope.names.lookup x = some .local) (hsw : swapsWith (.ListComp elt [⟨tg, iter, ifs, 0⟩, ⟨tg1, iter1, ifs1, 0⟩] scope pos) (some (.Name x pos')) spos.line X.env = pure true) (ok : BlkOk X.N X.env.scope scope own) (hi : PDI X tg iter wi mi)
    (hg : ∀ s H C cl fp, PDG (X.blk s H scope (compEnvC scope cl C X.env) fp) tg g ix b) (ht : ∀ s H C cl fp, PDTs (X.blk s H scope (compEnvC scope cl C X.env) fp) ifs tt c) (hi1 : ∀ s H C cl fp, PDF (X.blk s H scope (compEnvC scope cl C X.env) fp) tg1 iter1 wi1 mi1)
    (hg1 : ∀ s H C cl fp, PDG (X.blk s H scope (compEnvC scope cl C X.env) fp) tg1 g1 ix1 b1) (ht1 : ∀ s H C cl fp, PDTs (X.blk s H scope (compEnvC scope cl C X.env) fp) ifs1 tt1 c1) (he : ∀ s H C cl fp, PDE (X.blk s H scope (compEnvC scope cl C X.env) fp) elt te m)
    (hix : (ix.all fun i => decide (i ∈ own.map (·.2))) = true := by decide) (hix1 : (ix1.all fun i => decide (i ∈ vs1)) = true := by decide) (hv : (vs1.all fun i => decide (i ∈ own.map (·.2))) = true := by decide) (hs : ∀ x, foldedSetIterable iter X.env x = pure x := by intro _; rfl) (hs1 : ∀ env x, foldedSetIterable iter1 env x = pure x := by intro _ _; rfl) :
    PDS X (.Assign [.Name x pos'] (.ListComp elt [⟨tg, iter, ifs, 0⟩, ⟨tg1, iter1, ifs1, 0⟩] scope pos) spos) (tAsg (tLc2 wi g tt wi1 g1 tt1 te (own.map (·.2)) vs1) (gName i)) (mSetN i (mLc2 mi b c mi1 b1 c1 m (own.map (·.2)) vs1)) :=
  ⟨ps_setLc2 hc hN hy hyl hsw hi.pi ok (fun i h => of_decide_eq_true (List.all_eq_true.mp hv i h)) (fun s H C cl fp => (hg s H C cl fp).pg) (fun s H C cl fp => (ht s H C cl fp).pt) (fun s H C cl fp => (hi1 s H C cl fp).pi) (fun s H C cl fp => (hg1 s H C cl fp).pg) (fun s H C cl fp => (ht1 s H C cl fp).pt) (fun s H C cl fp => (he s H C cl fp).pe) hs hs1,
   ss_setN (sn_lc2 hi.sem (hg X.s_0 X.H_0 0 [] []).sem (ht X.s_0 X.H_0 0 [] []).sem (hi1 X.s_0 X.H_0 0 [] []).sem (hg1 X.s_0 X.H_0 0 [] []).sem (ht1 X.s_0 X.H_0 0 [] []).sem (he X.s_0 X.H_0 0 [] []).sem (fun i h => of_decide_eq_true (List.all_eq_true.mp hix i h)) fun i h => of_decide_eq_true (List.all_eq_true.mp hix1 i h))⟩
theorem gMulT_tup {ds : List Dat} {m : Int} {Q : Dat → Prop} : Pu (gMulT (.tup ds) (.int m)) Q ↔ (decide (ds ≠ [] ∧ ds.length ≤ 1000) && decide (2 ≤ m ∧ m ≤ 1000)) = true ∧ Q (.tup (List.replicate m.toNat ds).flatten) := pu_iteP
end PD

namespace PD
open PySem PySem.Spec PyProof.Rows L2
/-! ### [.. for k in a dict] -/
def keySm : Key → Bool
  | .inl _ => true
  | .inr x => decide (x.length ≤ 1000)
def mKeys (i : Nat) : ML := fun env S => match env[i]? with
  | some (.fz (.dk ds)) => if (decide (ds.length ≤ 1000) && ds.all fun kv => keySm kv.1) = true then some (ds.map fun kv => keyD kv.1, S) else none
  | _ => none
/-- the dict of the variable is locked -/
def Lkd (i : Nat) (σ : L2.St) (H : Hp) : Prop := ∃ a o kvs, σ[i]? = some (some (.ref a)) ∧ H a = some (.frz o (.dK kvs))
def iKeyL (i : Nat) : TI := fun σ H R => Lkd i σ H → iKeys (tVar i) σ H R
theorem it_keys {ps a : Addr} {Rl : (Addr → Prop) → Hp → Prop} {o : Obj} {kvs : List (Key × V)} {ds : List (Key × Dat)} (hk : kvs.map (·.1) = ds.map (·.1)) (hs : ∀ kv ∈ ds, keySm kv.1 = true) (hz : ds.length ≤ 1000) (hl : ∀ O' H', Rl O' H' → H' a = some (.frz o (.dK kvs))) : ItOk ps Rl (Itk a o kvs) (ds.map fun kv => keyD kv.1) where
  go := fun O' H' i h hi => by
    have := congrArg List.length hk
    rw [List.length_map, List.length_map] at this
    rw [List.length_map] at hi
    exact ⟨hl O' H' h, by omega⟩
  yld := fun O' H' i x H'' d h hd hy => by
    obtain ⟨rfl, k, v, e1, rfl⟩ := hy
    refine ⟨.refl _, ?_⟩
    have e2 : (kvs.map (·.1))[i]? = some k := by rw [List.getElem?_map, e1]; rfl
    rw [hk, List.getElem?_map] at e2
    rw [List.getElem?_map] at hd
    cases e3 : ds[i]? with
    | none => rw [e3] at e2; cases e2
    | some p =>
      rw [e3] at e2 hd
      cases hd
      have e4 : p.1 = k := Option.some.inj e2
      have hp := hs p (List.mem_of_getElem? e3)
      rw [e4] at hp
      show Rep O' ps H'' (kV k) (keyD p.1)
      rw [e4]
      cases k with
      | inl n => exact .int n
      | inr y => exact .str y (Nat.le_trans (of_decide_eq_true hp) (by decide))
  stop := fun O' H' h => by
    have := congrArg List.length hk
    rw [List.length_map, List.length_map] at this
    refine ⟨hl O' H' h, ?_⟩
    rw [List.length_map]
    omega
  sz := by
    rw [List.length_map]
    exact Nat.le_trans hz (by decide)
theorem keys_dict {O : Addr → Prop} {P : Fix} {σ : L2.St} {H : Hp} {env : DEnv} {S : Sm} {i : Nat} {r : List Dat × Sm} (I : EI O P σ H env S) (e : mKeys i env S = some r) :
    ∃ ds a vs, env[i]? = some (.fz (.dk ds)) ∧ r = (ds.map (fun kv => keyD kv.1), S) ∧ σ[i]? = some (some (.ref a)) ∧ Rd H a (.dK vs) ∧ ¬ O a ∧ RepK O P.ps H vs ds ∧ ds.length ≤ 1000 ∧ ∀ kv ∈ ds, keySm kv.1 = true := by
  unfold mKeys at e
  split at e
  · rename_i ds h
    split at e
    · rename_i hb
      cases e
      rw [Bool.and_eq_true, decide_eq_true_eq, List.all_eq_true] at hb
      obtain ⟨v, h1, h2⟩ := I.fz i _ h
      cases h2 with
      | @dk a vs _ rd na z l => exact ⟨ds, a, vs, h, rfl, h1, rd, na, l, hb.1, hb.2⟩
    · cases e
  · cases e
theorem si_keysL (i : Nat) : SI (iKeyL i) (mKeys i) := by
  intro O P σ H env S r R I e q
  rintro ⟨a', o, kvs, e1, e2⟩
  obtain ⟨ds, a, vs, h, rfl, h1, rd, na, l, hz, hs⟩ := keys_dict I e
  rw [h1] at e1
  cases e1
  have hv : vs = kvs := by
    rcases rd with rd | ⟨o', rd⟩
    · rw [rd] at e2; cases e2
    · rw [rd] at e2; cases e2; rfl
  subst hv
  refine ⟨.ref a', h1, a', o, rfl, .inl ⟨vs, e2, q _ H .refl I.sm (it_keys l.keys hs hz fun O' H' hr => ?_)⟩⟩
  exact hr.2.1 a' _ (fun z => na (z ▸ I.ops)) e2
def tLcK (i : Nat) (g : TG) (tt : TT) (te : TE) (vs : List Nat) : TE := fun σ H Q => tLockE (tLc (iKeys (tVar i)) g tt te vs) σ H Q ∨ tLc (iKeys (tVar i)) g tt te vs σ H Q
theorem sn_lcK {i : Nat} {g : TG} {tt : TT} {te : TE} {ix vs : List Nat} {b : MG} {c : MT} {m : M} (hg : SG g ix b) (hc : ST tt c) (he : SE te m) (hix : ∀ i ∈ ix, i ∈ vs) : SN (tLcK i g tt te vs) (mLc (mKeys i) b c m vs) := by
  intro O P σ H env S r Q I e q
  have base := sn_lc (si_keysL i) hg hc he hix
  obtain ⟨rk, ek⟩ : ∃ rk, mKeys i env S = some rk := by
    unfold mLc at e
    cases ek : mKeys i env S with
    | none => rw [ek] at e; cases e
    | some rk => exact ⟨rk, rfl⟩
  obtain ⟨ds, a, us, h, _, h1, rd, na, l, _, _⟩ := keys_dict I ek
  have aps : a ≠ P.ps := fun z => na (z ▸ I.ops)
  rcases rd with rd | ⟨o, rd⟩
  · refine .inl ⟨a, .dK us, rd, trivial, fun od => ?_⟩
    have aqs : a ≠ P.qs := fun z => by have := I.sm.2; rw [← z, rd] at this; cases this
    have tr : Tr O H O (upd H a (.frz od (.dK us))) := by
      refine ⟨fun x u iu nx hx => ⟨nx, ?_⟩, fun x u iu nx hx => ⟨nx, ?_⟩⟩
      · by_cases ex : x = a
        · rw [ex, rd] at hx; cases hx; exact iu.elim
        · rw [upd_ne ex]; exact hx
      · by_cases ex : x = a
        · subst ex
          have : u = .dK us := by
            rcases hx with hx | ⟨o', hx⟩
            · rw [rd] at hx; cases hx; rfl
            · rw [rd] at hx; cases hx
          rw [this]
          exact .inr ⟨od, upd_same⟩
        · rcases hx with hx | ⟨o', hx⟩
          · exact .inl (by rw [upd_ne ex]; exact hx)
          · exact .inr ⟨o', by rw [upd_ne ex]; exact hx⟩
    have sm : StrmAt P (upd H a (.frz od (.dK us))) S := ⟨by rw [upd_ne (Ne.symm aps)]; exact I.sm.1, by rw [upd_ne (Ne.symm aqs)]; exact I.sm.2⟩
    have I2 : EI O P σ (upd H a (.frz od (.dK us))) env S := {
      ops := I.ops
      nq := I.nq
      dom := fun b hb => by
        have : b ≠ a := fun z => na (z ▸ hb)
        rw [upd_ne this]; exact I.dom b hb
      sm := sm
      len := I.len
      fz := fun j d hj => let ⟨v, k1, k2⟩ := I.fz j d hj; ⟨v, k1, k2.tr tr⟩
      ow := fun j d hj => let ⟨p, k1, k2, k3, k4⟩ := I.ow j d hj; ⟨p, k1, k2, k3, k4.mono tr fun o ho => by rw [upd_ne (fun z => na (by rw [← z]; exact k2))]; exact ho⟩ }
    refine base O P σ _ env S r (fun v H' => H' a = some (.frz od (.dK us)) ∧ Q v (upd H' a (.dK us))) I2 e (fun p H' np pp f s ow => ?_) ⟨a, od, us, h1, upd_same⟩
    have pa : p ≠ a := fun z => by rw [z, upd_same] at np; cases np
    have ha : H' a = some (.frz od (.dK us)) := f a _ aps upd_same
    refine ⟨ha, q p _ (by rw [upd_ne pa] at np; exact np) pp (fun b ob nb hb => ?_) ⟨by rw [upd_ne (Ne.symm aps)]; exact s.1, by rw [upd_ne (Ne.symm aqs)]; exact s.2⟩ (ow.mono ⟨fun x u iu nx hx => ⟨nx, ?_⟩, fun x u iu nx hx => ⟨nx, ?_⟩⟩ fun o ho => by rw [upd_ne pa]; exact ho)⟩
    · by_cases eb : b = a
      · rw [eb, rd] at hb
        rw [eb, upd_same]; exact hb
      · rw [upd_ne eb]
        exact f b ob nb (by rw [upd_ne eb]; exact hb)
    · by_cases ex : x = a
      · rw [ex, ha] at hx; cases hx; exact iu.elim
      · rw [upd_ne ex]; exact hx
    · by_cases ex : x = a
      · subst ex
        have : u = .dK us := by
          rcases hx with hx | ⟨o', hx⟩
          · rw [ha] at hx; cases hx; exact iu.elim
          · rw [ha] at hx; cases hx; rfl
        rw [this]
        exact .inl upd_same
      · rcases hx with hx | ⟨o', hx⟩
        · exact .inl (by rw [upd_ne ex]; exact hx)
        · exact .inr ⟨o', by rw [upd_ne ex]; exact hx⟩
  · exact .inr (base O P σ H env S r Q I e q ⟨a, o, us, h1, rd⟩)
section
variable {X : Cx} {x : Str} {px : Pos} {elt tg : Expr} {ifs : List Expr} {scope : Scope} {own : List (Str × Nat)} {pos : Pos} {g : TG} {tt : TT} {te : TE} {ix : List Nat} {b : MG} {c : MT} {m : M}
theorem pn_lcK (i : Nat) (hc : X.calm = true) (hN : X.N.Nodup) (ok : BlkOk X.N X.env.scope scope own) (hx : X.N[i]? = some x) (hv : Vis X.env.scope x)
    (hg : ∀ s H C cl fp, PDG (X.blk s H scope (compEnvC scope cl C X.env) fp) tg g ix b) (ht : ∀ s H C cl fp, PDTs (X.blk s H scope (compEnvC scope cl C X.env) fp) ifs tt c) (he : ∀ s H C cl fp, PDE (X.blk s H scope (compEnvC scope cl C X.env) fp) elt te m)
    (hd : (x == ("__debug__" : Str)) = false := by decide) (hcd : (x == ("__classdict__" : Str)) = false := by decide) (hix : (ix.all fun i => decide (i ∈ own.map (·.2))) = true := by decide) (hs : ∀ y, foldedSetIterable (.Name x px) X.env y = pure y := by intro _; rfl) :
    PDN X (.ListComp elt [⟨tg, .Name x px, ifs, 0⟩] scope pos) (tLcK i g tt te (own.map (·.2))) (mLc (mKeys i) b c m (own.map (·.2))) :=
  have lc := pe_lc (pos := pos) hc hN (pi_keys (tg := tg) (pe_var (pos := px) hx hv hd hcd)) ok (fun s H C cl fp => (hg s H C cl fp).pg) (fun s H C cl fp => (ht s H C cl fp).pt) (fun s H C cl fp => (he s H C cl fp).pe) hs
  ⟨⟨fun pins s σ H Q I h => h.elim ((pe_lock lc).run pins s σ H Q I) (lc.run pins s σ H Q I)⟩,
   sn_lcK (hg X.s_0 X.H_0 0 [] []).sem (ht X.s_0 X.H_0 0 [] []).sem (he X.s_0 X.H_0 0 [] []).sem fun i hi => of_decide_eq_true (List.all_eq_true.mp hix i hi)⟩
end
theorem w_keys {i : Nat} {env : DEnv} {S : Sm} {QL : List Dat → Sm → Prop} : Ok (mKeys i env S) QL ↔ ∃ ds, env[i]? = some (.fz (.dk ds)) ∧ (decide (ds.length ≤ 1000) && ds.all fun kv => keySm kv.1) = true ∧ QL (ds.map fun kv => keyD kv.1) S := by
  unfold mKeys
  split
  · rename_i ds h
    constructor
    · intro k
      split at k
      · rename_i hb; exact ⟨ds, h, hb, ok_some.mp k⟩
      · exact (ok_none.mp k).elim
    · rintro ⟨ds', e, hb, k⟩
      rw [h] at e
      cases e
      rw [if_pos hb]
      exact ok_some.mpr k
  · rename_i h
    rw [ok_none]
    exact ⟨False.elim, fun ⟨ds, e, _⟩ => h ds e⟩
/-! ### *e in a display -/
def seqD : Dat → Option (List Dat)
  | .lst ds => some ds
  | .tup ds => some ds
  | _ => none
def mStar (a : M) (b : ML) : ML := fun env S => (a env S).bind fun x => (seqD x.1).bind fun ds => (b env x.2).map fun y => (ds ++ y.1, y.2)
theorem sa_star {K : PySem.W.Frag} {ta : TE} {t : TA} {a : M} {b : ML} (h : SE ta a) (h2 : SA t b) : SA (StX.tStar K ta t) (mStar a b) := by
  intro O P σ H env S r Q I e q
  unfold mStar at e
  cases ea : a env S with
  | none => rw [ea] at e; cases e
  | some x =>
    rw [ea] at e
    simp only [Option.bind_some] at e
    cases ed : seqD x.1 with
    | none => rw [ed] at e; cases e
    | some ds =>
      rw [ed] at e
      simp only [Option.bind_some] at e
      cases eb : b env x.2 with
      | none => rw [eb] at e; cases e
      | some y =>
        rw [eb] at e
        cases e
        refine h O P σ H env S x _ I ea fun v H' f s rx => ?_
        unfold seqD at ed
        split at ed
        · rename_i ds' hd
          cases ed
          rw [hd] at rx
          cases rx with
          | @lst p vs _ hb nb hz l =>
            refine ⟨p, vs, rfl, .inr (SqL.of hb), h2 O P σ H' env x.2 y _ (I.fr f s) eb fun us H2 f2 s2 rs => ?_⟩
            exact q _ H2 (f.trans f2) s2 ((l.tr (f2.tr I.ops)).app rs)
        · rename_i ds' hd
          cases ed
          rw [hd] at rx
          cases rx with
          | @tup p vs _ hb nb hz l =>
            refine ⟨p, vs, rfl, .inl hb.sq, h2 O P σ H' env x.2 y _ (I.fr f s) eb fun us H2 f2 s2 rs => ?_⟩
            exact q _ H2 (f.trans f2) s2 ((l.tr (f2.tr I.ops)).app rs)
        · cases ed
theorem pda_star {X : Cx} {e : Expr} {es : List Expr} {te : TE} {t : TA} {m : M} {ml : ML} {p : Pos} (h : PDE X e te m) (h2 : PDA X es t ml) (hs : starEach (.Starred e p :: es) X.env = (true, eval e X.env) :: starEach es X.env := by rfl) : PDA X (.Starred e p :: es) (StX.tStar X.K te t) (mStar m ml) := ⟨StX.pa_star h.pe h2.pa hs, sa_star h.sem h2.sem⟩
theorem w_star {a : M} {b : ML} {env : DEnv} {S : Sm} {QL : List Dat → Sm → Prop} : Ok (mStar a b env S) QL ↔ Ok (a env S) fun d S1 => Pu (seqD d) fun ds => Ok (b env S1) fun es S2 => QL (ds ++ es) S2 := by
  unfold mStar
  simp only [ok_bind]
  constructor <;> refine fun h => h.mono fun d S1 q => ?_
  · cases ed : seqD d with
    | none => simp only [ed] at q; exact (ok_none.mp q).elim
    | some ds => simp only [ed, Option.bind_some, ok_mapS] at q; exact pu_some.mpr q
  · obtain ⟨ds, ed, q⟩ := q
    simp only [ed, Option.bind_some, ok_mapS]
    exact q
theorem seqD_lst {ds : List Dat} {Q : List Dat → Prop} : Pu (seqD (.lst ds)) Q ↔ Q ds := pu_some
theorem seqD_tup {ds : List Dat} {Q : List Dat → Prop} : Pu (seqD (.tup ds)) Q ↔ Q ds := pu_some
end PD

namespace PD
open PySem PySem.Spec PyProof.Rows L2
/-! ### enumerate(tuple) -/
abbrev enumO (it : Addr) : Obj := { cls := .type "enumerate", data := .fields #[.none, .bool false, .ref it, rawInt 0, .none, .none] }
abbrev titO (t : Addr) : Obj := { cls := .type "tuple_iterator", data := .fields #[.ref t, .int 0 0] }
set_option maxHeartbeats 1000000 in
theorem meets_enumT (t : Addr) (its : Array Value) (m : Nat) (dd : Option Addr) (sl : Array (Option Value)) :
    Meets (Builtin.«enumerate.__new__» ⟨[.type "enumerate", .ref t], []⟩) (fun _ R s => s.heap.get? t = some { cls := .type "tuple", dict := dd, data := .seq its m, slots := sl } ∧
      R (.ok (.ret (.ref (s.heap.push (titO t)).objs.size))) { s with heap := (s.heap.push (titO t)).push (enumO s.heap.objs.size) }) :=
  .of_wp fun prog w A R s z => by
    obtain ⟨hp, gg, dn, tk, os⟩ := s
    obtain ⟨ht, z⟩ := z
    have sub := sub_enumerate
    have isT : Heap.IsTuple (Shared.heap ⟨hp, gg, dn, tk, os⟩) t its := ⟨_, ht, rfl, m, rfl⟩
    have itr : ∀ {A' : Around} {E : Value → Shared → Prop} {Q : Value → Shared → Prop}, Q (.ref hp.objs.size) ⟨hp.push (titO t), gg, dn, tk, os⟩ → wpAny (model prog w) A' (pyIter (.ref t)) Q E ⟨hp, gg, dn, tk, os⟩ :=
      fun q => (begins_tuple t its).iter prog w _ _ ⟨hp, gg, dn, tk, os⟩ _ isT q
    wp_walk using wpAny_loadPart' ht
    refine wpAny_stack_any fun st => wpAny_pure ?_
    split
    · rename_i c _ _ _ _ _
      cases (c == Value.type "enumerate") <;> (wp_walk using wpAny_loadPart' ht, itr) <;> exact ⟨_, rfl, z⟩
    · wp_walk using wpAny_loadPart' ht, itr
      exact ⟨_, rfl, z⟩
section
variable {prog : Program} {w : World} {A : Around} {E : Value → Shared → Prop} {s : Shared}
theorem call_enumT {t : Addr} {its : Array Value} {Q : Value → Shared → Prop} (hT : Heap.IsTuple s.heap t its)
    (z : ∀ h', IsEnum h' (s.heap.objs.size + 1) s.heap.objs.size 0 .none → h'.IsTupleIter s.heap.objs.size t 0 → (∀ b o, s.heap.get? b = some o → h'.get? b = some o) → Q (.ref (s.heap.objs.size + 1)) { s with heap := h' }) :
    wpAny (model prog w) A (call (.type "enumerate") [.ref t]) Q E s := by
  obtain ⟨⟨cls, dd, dt, sl⟩, ht, ec, m, ed⟩ := hT
  obtain rfl : cls = .type "tuple" := ec
  obtain rfl : dt = .seq its m := ed
  have sz : (s.heap.push (titO t)).objs.size = s.heap.objs.size + 1 := Heap.size_push ..
  have e1 : IsEnum ((s.heap.push (titO t)).push (enumO s.heap.objs.size)) (s.heap.objs.size + 1) s.heap.objs.size 0 .none := by
    have k := Heap.get?_push_size (s.heap.push (titO t)) (o := enumO s.heap.objs.size) rfl
    rw [sz] at k
    exact k
  refine callType_new F.called_enumerate (by decide) (F.typeCall_enumerate_1 _) (F.newCall_enumerate_1 _) (fun x => F.args_object_init_2 x _) F.entry_enumerate_new (meets_enumT t its m dd sl) ⟨ht, ?_⟩
  show _ ∧ _
  rw [sz]
  exact ⟨⟨_, e1, rfl⟩, z _ e1 ⟨_, Heap.get?_push_of_some _ (Heap.get?_push_size _ rfl), rfl, rfl⟩ fun b o k => Heap.get?_push_of_some _ (Heap.get?_push_of_some _ k)⟩
end
/-- the tuple at a, each item in a new pair that stays -/
def ItF (K : PySem.W.Frag) (a : Addr) : It where
  go := fun i H => ∃ (xs : List V) (x : V), SqT K H a xs ∧ xs[i]? = some x
  yld := fun i H v H' => ∃ (T : Addr) (x : V) (ob : Obj), v = .ref T ∧ H T = none ∧ ob.dict = none ∧ H' = upd H T (.frz ob (.tup [.int (i : Nat), x])) ∧ ∀ xs, SqT K H a xs → xs[i]? = some x
  stop := fun i H => ∃ xs : List V, SqT K H a xs ∧ xs.length = i
theorem tup_of {h : Heap} {a : Addr} {its : List Value} (p : IsTup h a its.toArray) : Heap.IsTuple h a its.toArray := p
theorem turn_enumT {P : Program} {w : World} {K : PySem.W.Frag} {elts : List Expr} {kk : Nat} {tpos : Pos} (a e it : Addr) :
    Turn P w K (.Tuple elts kk tpos) (ItF K a) [e, it] e (fun i h => (∃ old, IsEnum h e it ((i : Nat) : Int) old) ∧ h.IsTupleIter it a i ∧ e ≠ it) where
  mem := by simp
  obj := fun i h st b hb => by
    obtain ⟨⟨old, en⟩, ⟨o, ho, oc, od⟩, _⟩ := st
    rcases List.mem_cons.mp hb with rfl | hb
    · exact ⟨_, en, fun v q => nomatch q⟩
    · rw [List.mem_singleton.mp hb]
      exact ⟨o, ho, fun v q => by rw [od] at q; cases q⟩
  keep := fun i h h' st k => let ⟨⟨old, en⟩, hi, ne⟩ := st; ⟨⟨old, k e (by simp) _ en⟩, hi.at fun o q => k it (by simp) o q, ne⟩
  item := by
    intro X hP hw hK hc i pins s σ H E I hf st hg
    subst hP hw hK
    obtain ⟨⟨old, en⟩, hit, ne⟩ := st
    obtain ⟨xs, x, hq, hx⟩ := hg
    obtain ⟨its, rv, p, hz⟩ := I.tuple hq
    obtain ⟨u, hu, ru⟩ := rv.get hx
    have pt := tup_of p
    have eT : e ≠ a := fun z => by
      obtain ⟨o, k1, k2, _⟩ := pt
      rw [← z] at k1
      have en : s.heap.get? e = some _ := en
      rw [en] at k1
      cases k1
      simp at k2
    have iT : a ≠ it := fun z => by
      obtain ⟨o, k1, k2, _⟩ := pt
      obtain ⟨o', k3, k4, _⟩ := hit
      rw [z, k3] at k1
      cases k1
      rw [k4] at k2
      simp at k2
    have hd : X.A.in1.handled = none := I.ok.hd hc
    have D := Draws.tuple (prog := X.prog) (w := X.w) (A := X.A.in1) hd it a iT its.toArray
    have lu : i < its.toArray.size := by
      have := (List.getElem?_eq_some_iff.mp hu).1
      simpa using this
    have el : e < s.heap.objs.size := Heap.lt_size en
    have il : it < s.heap.objs.size := by obtain ⟨_, q, _⟩ := hit; exact Heap.lt_size q
    refine wpAny_pyNext_enum_itemD D en ⟨hit, pt⟩ lu ne (by simp [ne, eT]) fun v h' tk pv out st' hT sz hk => ?_
    have ev : v = u := by
      have : its.toArray[i]? = some v := pv
      rw [List.getElem?_toArray, hu] at this
      exact (Option.some.inj this).symm
    subst ev
    refine ⟨_, rfl, wpAny_letOwnedTupleGo_enum (s := { s with heap := h', toks := tk + 1 }) out fun h'' en2 sb => ?_⟩
    have hT2 := (sb.2 _ (Nat.ne_of_gt el)).trans hT
    have new : ObjOk X.prog X.w (upd H s.heap.objs.size (.frz { cls := .type "tuple", data := .seq #[.int i tk, v] } (.tup [.int (i : Nat), x]))) h'' s.heap.objs.size (.frz { cls := .type "tuple", data := .seq #[.int i tk, v] } (.tup [.int (i : Nat), x])) :=
      ⟨hT2, by show 2 ≤ sizeLine; decide, [.int i tk, v], .cons ⟨_, rfl⟩ (.cons ru .nil), ⟨_, hT2, rfl, _, rfl⟩⟩
    have I1 := I.turnedNew (t' := tk + 1) (ch := [e, it]) (fun b ob nb q => (sb.2 b (fun z => nb (by simp [z]))).trans (hk b ob (fun z => nb (by simp [z])) (fun z => nb (by simp [z])) q)) hf (Nat.le_refl _) new
    refine ⟨.ref s.heap.objs.size, _, I1, rfl, ⟨_, x, _, rfl, I.hok.fresh (Nat.le_refl _), rfl, rfl, fun ys hy => by rw [I.tuple_inj hy hq]; exact hx⟩, ⟨⟨v, ?_⟩, st'.1.at fun o q => (sb.2 it (Ne.symm ne)).trans q, ne⟩, fun b hb => ?_⟩
    · rw [show ((i + 1 : Nat) : Int) = (i : Int) + 1 by omega]
      exact en2
    · have lb : b < s.heap.objs.size := by
        rcases List.mem_cons.mp hb with rfl | hb
        · exact el
        · rw [List.mem_singleton.mp hb]; exact il
      rw [upd_ne (Nat.ne_of_lt lb)]
      exact (hf b hb).1
  done := by
    intro X hP hw hK hc i pins s σ H E I hf st hg
    subst hP hw hK
    obtain ⟨⟨old, en⟩, hit, ne⟩ := st
    obtain ⟨xs, hq, hx⟩ := hg
    obtain ⟨its, rv, p, hz⟩ := I.tuple hq
    obtain ⟨f0, f1, f2, f3, f4, f5⟩ := hf it (by simp)
    have pt := tup_of p
    have iT : a ≠ it := fun z => by
      obtain ⟨o, k1, k2, _⟩ := pt
      obtain ⟨o', k3, k4, _⟩ := hit
      rw [z, k3] at k1
      cases k1
      rw [k4] at k2
      simp at k2
    have hd : X.A.in1.handled = none := I.ok.hd hc
    have D := Draws.tuple (prog := X.prog) (w := X.w) (A := X.A.in1) hd it a iT its.toArray
    have ei : its.toArray.size = i := by
      have := rv.length
      simp
      omega
    refine wpAny_pyNext_enum_endD D en (by rw [ei]; exact ⟨hit, pt⟩) fun h' eb => ⟨rfl, I.turned (t' := s.toks) (fun b o hb q => eb b o hb q) f0 f1 f3 f4 f5⟩
  self := fun A i s Q E st h => let ⟨⟨_, en⟩, _⟩ := st; wpAny_pyIter_enum en h
def iEnumT (K : PySem.W.Frag) (te : TE) : TI := fun σ H R => te σ H fun x H1 => ∃ a xs, [x] = [V.ref a] ∧ SqT K H1 a xs ∧ R (ItF K a) H1
theorem pi_enumT {X : Cx} {e : Expr} {te : TE} {p pos tpos : Pos} {elts : List Expr} {kk : Nat} (hg : Gl X "enumerate") (hm : X.mg "enumerate" = none) (he : PE X e te) (hs : starEach [e] X.env = [(false, eval e X.env)] := by rfl) :
    PI X (.Tuple elts kk tpos) (.Call (.Name "enumerate" p) [e] [] pos) (iEnumT X.K te) := by
  have ha : PA X [e] (tCons te tNil) := pa_cons he pa_nil hs
  refine ⟨fun pins s σ H R I h => ?_⟩
  have h2 : tCons te tNil σ H fun vs H1 => ∃ a xs, vs = [V.ref a] ∧ SqT X.K H1 a xs ∧ R (ItF X.K a) H1 := h
  refine Call_ (ld_blt I hg hm boot_enumerate (PyProof.Rows.callWith_type1 (thn (ha.run pos pins s σ H _ I h2) fun us s1 ⟨vs, H1, I1, r1, a, xs, ex, hq, q⟩ => ?_) hs rfl))
  subst ex
  cases r1 with
  | cons r rr =>
    cases rr
    cases r
    obtain ⟨its, rv, p', hz⟩ := I1.tuple hq
    refine call_enumT (tup_of p') fun h' en hit hk => wpAny_pyIter_enum en ?_
    have I2 : Inv X pins σ H1 { s1 with heap := h' } := I1.kept (t' := s1.toks) hk
    refine ⟨s1.heap.objs.size + 1, [s1.heap.objs.size + 1, s1.heap.objs.size], _, _, H1, rfl, I2, turn_enumT a (s1.heap.objs.size + 1) s1.heap.objs.size, ⟨⟨.none, en⟩, hit, Nat.succ_ne_self _⟩, fun b hb => ?_, q⟩
    have le : s1.heap.objs.size ≤ b := by
      rcases List.mem_cons.mp hb with rfl | hb
      · exact Nat.le_add_right _ _
      · rw [List.mem_singleton.mp hb]; exact Nat.le_refl _
    exact I1.fpOk le (I1.hok.fresh le)
/-- the items with their numbers -/
def numD (ds : List Dat) : List Dat := ds.zipIdx.map fun p => Dat.tup [.int (p.2 : Nat), p.1]
def mEnum (a : M) : ML := fun env S => (a env S).bind fun x => match x.1 with
  | .tup ds => if ds.length ≤ 1000 then some (numD ds, x.2) else none
  | _ => none
theorem it_enumT {K : PySem.W.Frag} {ps a : Addr} {O : Addr → Prop} {H : Hp} {vs : List V} {ds : List Dat} (hT : TupAt H a vs) (na : ¬ O a) (l : RepL O ps H vs ds) (hz : ds.length ≤ 1000) : ItOk ps (Lt2 O H) (ItF K a) (numD ds) where
  go := fun O' H' i h hi => by
    obtain ⟨_, h1⟩ := h.1.tup hT na
    unfold numD at hi
    rw [List.length_map, List.length_zipIdx, ← l.len] at hi
    exact ⟨vs, vs[i], h1.sq, List.getElem?_eq_getElem hi⟩
  yld := fun O' H' i x H'' d h hd hy => by
    obtain ⟨_, h1⟩ := h.1.tup hT na
    obtain ⟨T, y, ob, rfl, nT, od, rfl, hy⟩ := hy
    have e1 := hy vs h1.sq
    unfold numD at hd
    rw [List.getElem?_map, List.getElem?_zipIdx] at hd
    cases e2 : ds[i]? with
    | none => rw [e2] at hd; cases hd
    | some d' =>
      rw [e2] at hd
      cases hd
      obtain ⟨v, e3, e4⟩ := (l.tr h.1).get e2
      rw [e1] at e3
      cases e3
      refine ⟨?_, .tup (.new od) (fun z => h.2 T z nT) (by show 2 ≤ sizeLine; decide) (repL_new (.cons (by rw [Nat.zero_add]; exact .int _) (.cons e4 .nil)) nT)⟩
      intro b o hb
      rw [upd_ne (fun z => by rw [z, nT] at hb; cases hb)]
      exact hb
  stop := fun O' H' h => by
    obtain ⟨_, h1⟩ := h.1.tup hT na
    unfold numD
    rw [List.length_map, List.length_zipIdx]
    exact ⟨vs, h1.sq, l.len⟩
  sz := by
    unfold numD
    rw [List.length_map, List.length_zipIdx]
    exact Nat.le_trans hz (by decide)
theorem sf_enumT {K : PySem.W.Frag} {te : TE} {a : M} (h : SE te a) : SF (iEnumT K te) (mEnum a) := by
  intro O P σ H env S r R I e q
  unfold mEnum at e
  cases ea : a env S with
  | none => rw [ea] at e; cases e
  | some x =>
    rw [ea] at e
    simp only [Option.bind_some] at e
    split at e
    · rename_i ds hd
      split at e
      · rename_i hz
        cases e
        refine h O P σ H env S x _ I ea fun v H' f s rx => ?_
        rw [hd] at rx
        cases rx with
        | @tup b vs _ hb nb hzz l => exact ⟨b, vs, rfl, hb.sq, q _ H' f s (it_enumT hb nb l hz)⟩
      · cases e
    · cases e
theorem pf_enum {X : Cx} {e : Expr} {te : TE} {a : M} {p pos tpos : Pos} {elts : List Expr} {kk : Nat} (hg : Gl X "enumerate") (hm : X.mg "enumerate" = none) (he : PDE X e te a) (hs : starEach [e] X.env = [(false, eval e X.env)] := by rfl) :
    PDF X (.Tuple elts kk tpos) (.Call (.Name "enumerate" p) [e] [] pos) (iEnumT X.K te) (mEnum a) := ⟨pi_enumT hg hm he.pe hs, sf_enumT he.sem⟩
theorem w_enum {a : M} {env : DEnv} {S : Sm} {QL : List Dat → Sm → Prop} : Ok (mEnum a env S) QL ↔ Ok (a env S) fun d S1 => ∃ ds, d = .tup ds ∧ ds.length ≤ 1000 ∧ QL (numD ds) S1 := by
  unfold mEnum
  simp only [ok_bind]
  constructor <;> refine fun h => h.mono fun d S1 q => ?_
  · cases d with
    | tup ds =>
      simp only at q
      split at q
      · exact ⟨ds, rfl, by assumption, ok_some.mp q⟩
      · exact (ok_none.mp q).elim
    | _ => exact (ok_none.mp q).elim
  · obtain ⟨ds, rfl, hz, q⟩ := q
    simp only [if_pos hz]
    exact ok_some.mpr q
end PD

namespace PD
open PySem PySem.Spec PyProof.Rows L2
/-! ### texts as lists of signs -/
theorem str_ext {x y : Str} (h : x.cps.toList = y.cps.toList) : x = y := by
  cases x; cases y
  congr 1
  exact Array.toList_inj.mp h
theorem len_cps (x : Str) : x.length = x.cps.toList.length := (Array.length_toList).symm
theorem cat_cps (x y : Str) : (x ++ y).cps.toList = x.cps.toList ++ y.cps.toList := Array.toList_append
theorem fold_cat {z : Array Nat} (hz : z = #[]) : ∀ (rest : List Str) (acc : Array Nat), (rest.foldl (fun acc p => acc ++ z ++ p.cps) acc).toList = acc.toList ++ rest.flatMap (·.cps.toList)
  | [], acc => by simp
  | p :: rest, acc => by
    rw [List.foldl_cons, fold_cat hz rest]
    simp [hz]
theorem join_cps (ys : List Str) : (joinS "" ys).cps.toList = ys.flatMap (·.cps.toList) := by
  cases ys with
  | nil => rfl
  | cons y ys =>
    show (ys.foldl (fun acc p => acc ++ ("" : Str).cps ++ p.cps) y.cps).toList = _
    rw [fold_cat (z := ("" : Str).cps) rfl, List.flatMap_cons]
theorem sum_len (ys : List Str) : (ys.map (·.length)).sum = (ys.flatMap (·.cps.toList)).length := by
  induction ys with
  | nil => rfl
  | cons y ys ih => rw [List.map_cons, List.sum_cons, ih, List.flatMap_cons, List.length_append, len_cps]
def strOf (cs : List Nat) : Str := ⟨cs.toArray⟩
theorem strOf_cps (cs : List Nat) : (strOf cs).cps.toList = cs := rfl
theorem strOf_len (cs : List Nat) : (strOf cs).length = cs.length := by rw [len_cps, strOf_cps]
theorem strOf_self (x : Str) : strOf x.cps.toList = x := rfl
theorem gJoin_E {ys : List Str} {Q : Dat → Prop} (h : (ys.flatMap (·.cps.toList)).length ≤ 16777216) : Pu (gJoin "" [.lst (ys.map .str)]) Q ↔ Q (.str (strOf (ys.flatMap (·.cps.toList)))) := by
  have e : joinS "" ys = strOf (ys.flatMap (·.cps.toList)) := str_ext (join_cps ys)
  have l : joinLen "" ys ≤ 16777216 := by
    unfold joinLen
    rw [sum_len, show ("" : Str).length = 0 from rfl, Nat.mul_zero, Nat.add_zero]
    exact h
  rw [gJoin_lst, e, strOf_len]
  exact ⟨fun q => q.2, fun q => ⟨⟨l, h⟩, q⟩⟩
/-- one sign -/
def sg (c : Nat) : Str := ⟨#[c]⟩
theorem sg_cps (c : Nat) : (sg c).cps.toList = [c] := rfl
theorem flat_sg : ∀ cs : List Nat, (cs.map sg).flatMap (·.cps.toList) = cs
  | [] => rfl
  | c :: cs => by rw [List.map_cons, List.flatMap_cons, flat_sg cs]; rfl
theorem signs_sg (x : Str) : signsD x = x.cps.toList.map fun c => .str (sg c) := rfl
/-! ### sorted pairs -/
theorem lt_or_eq {a b : List Nat} (h : a ≤ b) : a < b ∨ a = b := by
  by_cases k : a < b
  · exact .inl k
  · exact .inr (List.le_antisymm h (List.not_lt.mp k))
theorem leP_le {p q : Str × Int} (h : PySem.W.dataLe false pairP p q = true) : p.1.cps.toList ≤ q.1.cps.toList := by
  rw [PySem.W.dataLe_eq] at h
  have h : (!PySem.W.dataLt (pairP q) (pairP p)) = true := h
  unfold pairP at h
  rw [PySem.W.dataLt_pair (by simp [PySem.W.alike]) (by simp [PySem.W.alike])] at h
  by_cases e : PyData.eqv (.str q.1) (.str p.1) = true
  · have e2 : (q.1 == p.1) = true := e
    have e3 : q.1 = p.1 := eq_of_beq e2
    rw [e3]
    exact List.le_refl _
  · rw [if_neg e, Bool.not_eq_true', PySem.W.dataLt_str, decide_eq_false_iff_not] at h
    exact List.not_lt.mp h
theorem sortP_pw (bs : List (Str × Int)) : (sortP bs).Pairwise fun p q => p.1.cps.toList ≤ q.1.cps.toList := by
  have t := PySem.W.sortLe_total (PyProof.Rows.listOrd PyProof.Rows.itemOrd) false fun b => PySem.W.keyToks (pairP b)
  have s := List.pairwise_mergeSort (le := PySem.W.dataLe false pairP) (fun a b c h1 h2 => t.trans a b c h1 h2) (fun a b => Bool.or_eq_true_iff.mpr (t.total a b)) bs
  exact s.imp leP_le
theorem sortP_perm (bs : List (Str × Int)) : (sortP bs).Perm bs := List.mergeSort_perm _ _
theorem sortP_lt {bs : List (Str × Int)} (h : (bs.map (·.1)).Nodup) : (sortP bs).Pairwise fun p q => p.1.cps.toList < q.1.cps.toList := by
  have n : ((sortP bs).map (·.1)).Nodup := ((sortP_perm bs).map _).nodup_iff.mpr h
  have n2 : (sortP bs).Pairwise fun p q => p.1 ≠ q.1 := List.pairwise_map.mp n
  refine ((sortP_pw bs).and n2).imp fun {a b} h => ?_
  rcases lt_or_eq h.1 with h3 | h3
  · exact h3
  · exact (h.2 (str_ext h3)).elim
/-- a sorted list of distinct texts is what sorted(set(..)) gives -/
theorem metS_nodup : ∀ (xs ys : List Str), (ys ++ xs).Nodup → xs.foldl insS ys = ys ++ xs
  | [], ys, _ => by rw [List.append_nil]; rfl
  | x :: xs, ys, h => by
    have hx : x ∉ ys := fun m => (List.nodup_append.mp h).2.2 x m x List.mem_cons_self rfl
    rw [List.foldl_cons]
    unfold insS
    rw [if_neg hx]
    have := metS_nodup xs (ys ++ [x]) (by rw [List.append_assoc]; exact h)
    rw [show (xs.foldl (fun xs x => if x ∈ xs then xs else xs ++ [x]) (ys ++ [x])) = xs.foldl insS (ys ++ [x]) from rfl, this, List.append_assoc]
    rfl
theorem nodup_of_lt {xs : List Str} (h : xs.Pairwise fun a b => a.cps.toList < b.cps.toList) : xs.Nodup := h.imp fun {a b} h e => by
  rw [e] at h; exact List.lt_irrefl _ h
theorem leS_of {a b : Str} (h : a.cps.toList ≤ b.cps.toList) : leS a b = true := decide_eq_true h
theorem sortSet_id {xs : List Str} (h : xs.Pairwise fun a b => a.cps.toList < b.cps.toList) : sortS (metS xs) = xs := by
  have e : metS xs = xs := metS_nodup xs [] (nodup_of_lt h)
  rw [e]
  unfold sortS
  exact List.mergeSort_of_pairwise (h.imp fun {a b} q => leS_of (List.le_of_lt q))
/-- and only of these -/
theorem insS_nodup {ys : List Str} (h : ys.Nodup) (x : Str) : (insS ys x).Nodup := by
  unfold insS
  split
  · exact h
  · rename_i hx
    rw [List.nodup_append]
    exact ⟨h, List.nodup_cons.mpr ⟨List.not_mem_nil, List.nodup_nil⟩, fun a ha b hb e => hx (by rw [← List.mem_singleton.mp hb, ← e]; exact ha)⟩
theorem metS_nd : ∀ (xs ys : List Str), ys.Nodup → (xs.foldl insS ys).Nodup
  | [], _, h => h
  | x :: xs, ys, h => metS_nd xs _ (insS_nodup h x)
theorem sortSet_lt (xs : List Str) : (sortS (metS xs)).Pairwise fun a b => a.cps.toList < b.cps.toList := by
  have s : (sortS (metS xs)).Pairwise fun a b => leS a b = true := List.pairwise_mergeSort (le := leS) leS_trans leS_total _
  have n : (sortS (metS xs)).Nodup := (List.mergeSort_perm _ _).nodup_iff.mpr (metS_nd xs [] List.nodup_nil)
  refine (s.and n).imp fun {a b} h => ?_
  rcases lt_or_eq (of_decide_eq_true h.1 : a.cps.toList ≤ b.cps.toList) with h3 | h3
  · exact h3
  · exact (h.2 (str_ext h3)).elim
theorem sortSet_iff {xs : List Str} : sortS (metS xs) = xs ↔ xs.Pairwise fun a b => a.cps.toList < b.cps.toList := ⟨fun e => e ▸ sortSet_lt xs, sortSet_id⟩
/-! ### comprehensions of two clauses -/
theorem lc2_pure {α β : Type} {b b1 : MG} {c c1 : MT} {mi1 : ML} {e : M} {vs1 : List Nat} {env : DEnv} {S : Sm} (g : α → Dat) (h : α → List β) (k : β → Dat) (f : β → Dat) : ∀ xs : List α,
    (∀ a ∈ xs, Pu (b (g a) env) fun env1 => Ok (c env1 S) fun t S1 => S1 = S ∧ t = true ∧ Ok (mi1 env1 S) fun ds S2 => S2 = S ∧ ds = (h a).map k ∧ ∀ y ∈ h a, Pu (b1 (k y) (wipeE env1 vs1)) fun env2 => Ok (c1 env2 S) fun t S3 => S3 = S ∧ t = true ∧ Ok (e env2 S) fun z S4 => S4 = S ∧ z = f y) →
    lcGo2 b c mi1 b1 c1 e vs1 env (xs.map g) S = some ((xs.flatMap h).map f, S)
  | [], _ => rfl
  | a :: xs, hh => by
    have ih := lc2_pure g h k f xs fun a ha => hh a (List.mem_cons_of_mem _ ha)
    obtain ⟨env1, h1, t, S1, h2, rfl, rfl, ds, S2, h3, rfl, rfl, h4⟩ := hh a List.mem_cons_self
    have hi := lc_pure (b := b1) (c := c1) (e := e) (env := wipeE env1 vs1) (S := S2) k (fun _ => true) f (h a) fun y hy => by
      obtain ⟨env2, k1, t, S3, k2, rfl, rfl, k3⟩ := h4 y hy
      exact ⟨env2, k1, true, _, k2, rfl, rfl, fun _ => k3⟩
    rw [List.filter_eq_self.mpr fun _ _ => rfl] at hi
    rw [List.map_cons]
    unfold lcGo2
    simp only [h1, Option.bind_some, h2, if_true, h3, hi, ih, Option.map_some, List.flatMap_cons, List.map_append]
theorem ok_lc2M {α β : Type} {b b1 : MG} {c c1 : MT} {mi1 : ML} {e : M} {vs1 : List Nat} {env : DEnv} {S : Sm} {QL : List Dat → Sm → Prop} (g : α → Dat) (h : α → List β) (k : β → Dat) (f : β → Dat) (xs : List α)
    (hh : ∀ a ∈ xs, Pu (b (g a) env) fun env1 => Ok (c env1 S) fun t S1 => S1 = S ∧ t = true ∧ Ok (mi1 env1 S) fun ds S2 => S2 = S ∧ ds = (h a).map k ∧ ∀ y ∈ h a, Pu (b1 (k y) (wipeE env1 vs1)) fun env2 => Ok (c1 env2 S) fun t S3 => S3 = S ∧ t = true ∧ Ok (e env2 S) fun z S4 => S4 = S ∧ z = f y)
    (q : QL ((xs.flatMap h).map f) S) : Ok (lcGo2 b c mi1 b1 c1 e vs1 env (xs.map g) S) QL := by
  rw [lc2_pure g h k f xs hh]
  exact ok_some.mpr q
theorem all_dec {α : Type} (xs : List α) (p : α → Prop) [∀ a, Decidable (p a)] : ((xs.map fun a => decide (p a)).all id) = decide (∀ a ∈ xs, p a) := by
  rw [Bool.eq_iff_iff, List.all_eq_true, decide_eq_true_eq]
  constructor
  · intro h a ha
    exact of_decide_eq_true (h _ (List.mem_map_of_mem ha))
  · intro h b hb
    obtain ⟨a, ha, rfl⟩ := List.mem_map.mp hb
    exact decide_eq_true (h a ha)
end PD

namespace PD
open PySem PySem.Spec PyProof.Rows L2
section
variable {Q : Dat → Prop}
theorem pu_or {g g' : Dat → Dat → Option Dat} {d e : Dat} (h : g' d e = none) : Pu (gOr g g' d e) Q ↔ Pu (g d e) Q := by
  unfold gOr
  cases g d e with
  | none => rw [h]
  | some z => exact Iff.rfl
theorem pu_or_some {g g' : Dat → Dat → Option Dat} {d e z : Dat} (h : g d e = some z) : Pu (gOr g g' d e) Q ↔ Pu (some z) Q := by
  unfold gOr
  rw [h]
theorem pu_or2 {g g' : Dat → Dat → Option Dat} {d e : Dat} (h : g d e = none) : Pu (gOr g g' d e) Q ↔ Pu (g' d e) Q := by
  unfold gOr
  rw [h]
theorem gIxA_lst {ds : List Dat} {i : Int} : Pu (gIxA (.lst ds) (.int i)) Q ↔ Pu (atI ds i) Q := (pu_or rfl).trans gIx_lst
theorem gIxA_tup {ds : List Dat} {i : Int} : Pu (gIxA (.tup ds) (.int i)) Q ↔ Pu (atI ds i) Q := (pu_or rfl).trans gIx_tup
theorem gIxA_str {x : Str} {i : Int} : Pu (gIxA (.str x) (.int i)) Q ↔ Pu (atI x.cps.toList i) fun c => Q (.str ⟨#[c]⟩) := (pu_or rfl).trans gIx_str
theorem gIxA_dk {kvs : List (Key × Dat)} {x : Str} : Pu (gIxA (.dk kvs) (.str x)) Q ↔ Pu (valD kvs (.inr x)) Q := (pu_or2 rfl).trans Iff.rfl
theorem gIxA_dkI {kvs : List (Key × Dat)} {x : Int} : Pu (gIxA (.dk kvs) (.int x)) Q ↔ Pu (valD kvs (.inl x)) Q := (pu_or2 rfl).trans Iff.rfl
theorem gInA_sign {c : Nat} {z : Str} : Pu (gInA (.str ⟨#[c]⟩) (.str z)) Q ↔ Q (.bl (decide (c ∈ z.cps.toList))) := (pu_or rfl).trans gIn_sign
theorem gInA_strs {x : Str} {xs : List Str} : Pu (gInA (.str x) (.lst (xs.map .str))) Q ↔ Q (.bl (decide (x ∈ xs))) := (pu_or rfl).trans gIn_strs
theorem gNotInA_strs {x : Str} {xs : List Str} : Pu (gNotInA (.str x) (.lst (xs.map .str))) Q ↔ Q (.bl (!decide (x ∈ xs))) := (pu_or rfl).trans gNotIn_strs
theorem gInA_dk {kvs : List (Key × Dat)} {x : Str} : Pu (gInA (.str x) (.dk kvs)) Q ↔ Q (.bl (valD kvs (.inr x)).isSome) := by
  refine (pu_or2 rfl).trans ?_
  show Pu (some (.bl (xor false (valD kvs (.inr x)).isSome))) Q ↔ _
  rw [Bool.false_xor]; exact pu_some
theorem gIntOf_bl {b : Bool} : Pu (gIntOf [.bl b]) Q ↔ Q (.int (if b = true then 1 else 0)) := pu_some
theorem gSortD_lst {ds : List Dat} : gSortD [.lst ds] = gSortA [.lst ds] := rfl
theorem gSortD_dk {kvs : List (Key × Dat)} {ks : List Str} (h : strKeys kvs = some ks) (h64 : ks.length < 64) (hk : ∀ k ∈ ks, k.length ≤ 1000) : Pu (gSortD [.dk kvs]) Q ↔ Q (.lst ((sortS ks).map .str)) := by
  unfold gSortD
  simp only [h, Option.bind_some]
  rw [if_pos ⟨h64, hk⟩]
  exact pu_some
theorem gRepA_ {d : Dat} {k : Int} : Pu (gRepA (.lst [d]) (.int k)) Q ↔ (decide (-100000 ≤ k) && decide (k ≤ 100000)) = true ∧ Q (.lst (List.replicate k.toNat d)) := pu_iteP
theorem gCat_ {xs ys : List Dat} : Pu (gCat (.lst xs) (.lst ys)) Q ↔ xs.length + ys.length ≤ sizeLine ∧ Q (.lst (xs ++ ys)) := pu_iteP
theorem gGeA_int {i j : Int} : Pu (gGeA (.int i) (.int j)) Q ↔ Q (.bl (decide (j ≤ i))) := (pu_or_some rfl).trans pu_some
theorem toPyL_ints : ∀ xs : List Int, toPyL (xs.map .int) = some (xs.map .int)
  | [] => rfl
  | x :: xs => by
    show (match toPy (.int x), toPyL (xs.map .int) with | some x, some xs => some (x :: xs) | _, _ => none) = _
    rw [toPyL_ints xs]; rfl
theorem toPy_ints (xs : List Int) : toPy (.lst (xs.map .int)) = some (.list (xs.map .int)) := by
  show (match toPyL (xs.map .int) with | some xs => some (PyData.list xs) | none => none) = _
  rw [toPyL_ints]
theorem dep_ints : ∀ xs : List Int, PyData.depthAll (xs.map .int) = 0
  | [] => rfl
  | x :: xs => by
    show max (PyData.depth (.int x)) (PyData.depthAll (xs.map .int)) = 0
    rw [dep_ints xs]; rfl
theorem gGeA_ints {xs ys : List Int} : Pu (gGeA (.lst (xs.map .int)) (.lst (ys.map .int))) Q ↔ Q (.bl (!decide (xs < ys))) := by
  refine (pu_or2 rfl).trans ?_
  have ok : okCmp (.list (xs.map .int)) (.list (ys.map .int)) = true := by
    unfold okCmp
    have h1 : PySem.W.alike (.list (xs.map .int)) (.list (ys.map .int)) = true := by
      show PySem.W.alikeAll (xs.map .int) (ys.map .int) = true
      exact PySem.W.alike_ints xs ys
    have h2 : (PyData.list (xs.map .int)).depth = 1 := by
      show PyData.depthAll (xs.map .int) + 1 = 1
      rw [dep_ints]
    rw [h1, h2]
    simp only [Bool.true_and, Bool.and_eq_true, Bool.not_eq_true', decide_eq_true_eq]
    exact ⟨rfl, Nat.le_trans (Nat.min_le_left _ _) (by decide)⟩
  unfold gDataGe
  simp only [toPy_ints, ok, if_true]
  rw [pu_some, PySem.W.dataLt_list]
  have e := PySem.W.dataLt_ints xs ys
  unfold PySem.W.rowLt at e
  rw [e]
theorem gJoin_tupE {ys : List Str} (h : (ys.flatMap (·.cps.toList)).length ≤ 16777216) : Pu (gJoin "" [.tup (ys.map .str)]) Q ↔ Q (.str (strOf (ys.flatMap (·.cps.toList)))) := by
  have e : gJoin "" [.tup (ys.map .str)] = gJoin "" [.lst (ys.map .str)] := rfl
  rw [e, gJoin_E h]
theorem gTupB_lst {ds : List Dat} : Pu (gTupB [.lst ds]) Q ↔ Q (.tup ds) := pu_some
theorem gTupB_tup {ds : List Dat} : Pu (gTupB [.tup ds]) Q ↔ Q (.tup ds) := pu_some
theorem gTupB_str {x : Str} : Pu (gTupB [.str x]) Q ↔ x.length ≤ 1000 ∧ Q (.tup (signsD x)) := pu_iteP
theorem gStarts_1 {a b : Str} : Pu (gStarts a [.str b]) Q ↔ Q (.bl (Txt.startswith a b)) := pu_some
theorem gStarts_3 {a b : Str} {i : Int} : Pu (gStarts a [.str b, .int i]) Q ↔ Q (.bl (Txt.startswith3 a b i)) := pu_some
theorem gEnds_1 {a b : Str} : Pu (gEnds a [.str b]) Q ↔ Q (.bl (Txt.endswith a b)) := pu_some
theorem gEnds_4 {a b : Str} {i j : Int} : Pu (gEnds a [.str b, .int i, .int j]) Q ↔ Q (.bl (ends4 a b i j)) := pu_some
theorem gLenA_str {x : Str} : Pu (gLenA [.str x]) Q ↔ Q (.int x.length) := pu_some
theorem gLenA_lst {x : List Dat} : Pu (gLenA [.lst x]) Q ↔ Q (.int x.length) := pu_some
theorem gLenA_tup {x : List Dat} : Pu (gLenA [.tup x]) Q ↔ Q (.int x.length) := pu_some
theorem gLenA_dk {x : List (Key × Dat)} : Pu (gLenA [.dk x]) Q ↔ Q (.int x.length) := pu_some
def keyP (w : Str × Int) : Key × Dat := (.inr w.1, .int w.2)
theorem toKV_map : ∀ ws : List (Str × Int), toKV (ws.map pairD) = some (ws.map keyP)
  | [] => rfl
  | w :: ws => by
    show ((toKV (ws.map pairD)).map ((Sum.inr w.1, Dat.int w.2) :: ·)) = _
    rw [toKV_map ws]; rfl
theorem gDictA_pairs {ws : List (Str × Int)} (h : (ws.map (·.1)).Nodup) : Pu (gDictA [.tup (ws.map pairD)]) Q ↔ Q (.dk (ws.map keyP)) := by
  unfold gDictA
  simp only [toKV_map, Option.bind_some]
  have : ((ws.map keyP).map (·.1)).Nodup := by
    rw [List.map_map]
    show (ws.map fun w => (Sum.inr w.1 : Key)).Nodup
    have h2 : ws.map (fun w => (Sum.inr w.1 : Key)) = (ws.map (·.1)).map Sum.inr := by rw [List.map_map]; rfl
    rw [h2]
    exact List.pairwise_map.mpr (h.imp fun {a b} n e => n (Sum.inr.inj e))
  rw [if_pos this]
  exact pu_some
theorem valD_isSome {ws : List (Str × Int)} {x : Str} : (valD (ws.map keyP) (.inr x)).isSome = decide (x ∈ ws.map (·.1)) := by
  induction ws with
  | nil => rfl
  | cons w ws ih =>
    rw [List.map_cons, List.map_cons]
    by_cases h : w.1 = x
    · rw [valD_pos (show (keyP w).1 = .inr x by unfold keyP; rw [h])]
      simp [h]
    · rw [valD_neg (show ¬ (keyP w).1 = .inr x from fun e => h (Sum.inr.inj e)), ih]
      have h2 : ¬ x = w.1 := fun e => h e.symm
      rw [decide_eq_decide, List.mem_cons]
      exact ⟨.inr, fun z => z.resolve_left h2⟩
theorem valD_at {ws : List (Str × Int)} (h : (ws.map (·.1)).Nodup) : ∀ w ∈ ws, valD (ws.map keyP) (.inr w.1) = some (.int w.2) := by
  induction ws with
  | nil => intro w hw; cases hw
  | cons v ws ih =>
    intro w hw
    rw [List.map_cons] at h ⊢
    obtain ⟨h1, h2⟩ := List.nodup_cons.mp h
    rcases List.mem_cons.mp hw with rfl | hw
    · exact valD_pos rfl
    · rw [valD_neg (fun e => h1 (by have e2 : v.1 = w.1 := Sum.inr.inj (show (Sum.inr v.1 : Key) = Sum.inr w.1 from e); rw [e2]; exact List.mem_map_of_mem hw))]
      exact ih h2 w hw
end
section
variable {env : DEnv} {S : Sm} {Q : Dat → Sm → Prop} {QS : Fl → Sm → Prop}
theorem w_sortLen {a : M} : Ok (mSortLen a env S) Q ↔ Ok (a env S) fun d S1 => ∃ ds xs, d = .lst ds ∧ toStrs ds = some xs ∧ xs.length ≤ 1000 ∧ Q (.lst ((sortLen xs).map .str)) S1 := by
  unfold mSortLen; simp only [ok_bind]
  constructor <;> refine fun h => h.mono fun d S1 q => ?_
  · cases d with
    | lst ds =>
      cases ex : toStrs ds with
      | none => simp only [ex] at q; exact (ok_none.mp q).elim
      | some xs =>
        simp only [ex, Option.bind_some] at q
        split at q
        · exact ⟨ds, xs, rfl, ex, by assumption, ok_some.mp q⟩
        · exact (ok_none.mp q).elim
    | _ => exact (ok_none.mp q).elim
  · obtain ⟨ds, xs, rfl, e, h, q⟩ := q
    simp only [e, Option.bind_some, if_pos h]
    exact ok_some.mpr q
theorem w_aug {i : Nat} {g : Dat → Dat → Option Dat} {a : M} : Ok (mAug i g a env S) QS ↔ ∃ d, env[i]? = some (.fz d) ∧ Ok (a env S) fun r S1 => Pu (g d r) fun z => QS (.nx (env.set i (.fz z))) S1 := by
  unfold mAug
  split
  · rename_i d h
    simp only [ok_bind, ok_mapP]
    exact ⟨fun q => ⟨d, h, q⟩, fun ⟨d', e, q⟩ => by rw [h] at e; cases e; exact q⟩
  · rename_i h
    rw [ok_none]
    exact ⟨False.elim, fun ⟨d, e, _⟩ => h d e⟩
theorem w_putI {i : Nat} {k a : M} : Ok (mPutI i k a env S) QS ↔ Ok (a env S) fun d S1 => ∃ ds, env[i]? = some (.ow (.lst ds)) ∧ Ok (k env S1) fun e S2 => isI e fun j => Pu (ixN ds.length j) fun n => QS (.nx (env.set i (.ow (.lst (ds.set n d))))) S2 := by
  unfold mPutI; simp only [ok_bind]
  constructor <;> refine fun h => h.mono fun d S1 q => ?_
  · split at q
    · rename_i ds hd
      refine ⟨ds, hd, ?_⟩
      simp only [ok_bind] at q
      refine q.mono fun e S2 q => ?_
      cases e <;> first | exact ok_mapP.mp q | exact (ok_none.mp q).elim
    · exact (ok_none.mp q).elim
  · obtain ⟨ds, hd, q⟩ := q
    simp only [hd, ok_bind]
    refine q.mono fun e S2 q => ?_
    cases e <;> first | exact ok_mapP.mpr q | exact q.elim
theorem w_augI {i : Nat} {k a : M} : Ok (mAugI i k a env S) QS ↔ ∃ ds, env[i]? = some (.ow (.lst ds)) ∧ Ok (k env S) fun e S1 => isI e fun j => Pu (atI ds j) fun o => isI o fun u => Ok (a env S1) fun d S2 => isI d fun v => Pu (ixN ds.length j) fun n => QS (.nx (env.set i (.ow (.lst (ds.set n (.int (u + v))))))) S2 := by
  unfold mAugI
  split
  · rename_i ds hd
    simp only [ok_bind]
    constructor
    · refine fun h => ⟨ds, hd, h.mono fun e S1 q => ?_⟩
      cases e with
      | int j =>
        simp only at q
        split at q
        · rename_i u hu
          rw [isI_int]
          refine ⟨_, hu, isI_int.mpr ?_⟩
          simp only [ok_bind] at q
          refine q.mono fun d S2 q => ?_
          cases d <;> first | exact ok_mapP.mp q | exact (ok_none.mp q).elim
        · exact (ok_none.mp q).elim
      | _ => exact (ok_none.mp q).elim
    · rintro ⟨ds', e', h⟩
      rw [hd] at e'
      cases e'
      refine h.mono fun e S1 q => ?_
      cases e with
      | int j =>
        obtain ⟨o, ho, q⟩ := q
        cases o with
        | int u =>
          simp only [ho, ok_bind]
          refine (isI_int.mp q).mono fun d S2 q => ?_
          cases d <;> first | exact ok_mapP.mpr q | exact q.elim
        | _ => exact q.elim
      | _ => exact q.elim
  · rename_i h
    rw [ok_none]
    exact ⟨False.elim, fun ⟨d, e, _⟩ => h d e⟩
def downD (n : Nat) : List Dat := (List.range n).reverse.map fun k : Nat => Dat.int k
theorem down_eq (n : Nat) : rngC (0 + (n : Int) - 1) (-1) n = downD n := by
  unfold rngC downD
  apply List.ext_getElem
  · simp
  · intro i h1 h2
    simp only [List.length_map, List.length_range] at h1
    simp only [List.getElem_map, List.getElem_range, List.getElem_reverse, List.length_range]
    congr 1
    omega
theorem w_revR {QL : List Dat → Sm → Prop} {a : M} : Ok (mRevR a env S) QL ↔ Ok (a env S) fun d S1 => isI d fun j => (rng62 j && decide (j.toNat ≤ 100000)) = true ∧ QL (downD j.toNat) S1 := by
  unfold mRevR; simp only [ok_bind]
  constructor <;> refine fun h => h.mono fun d S1 q => ?_
  · cases d with
    | int j =>
      simp only [Int.sub_zero] at q
      split at q
      · rename_i hb
        rw [down_eq] at q
        exact ⟨hb, ok_some.mp q⟩
      · exact (ok_none.mp q).elim
    | _ => exact (ok_none.mp q).elim
  · cases d with
    | int j =>
      obtain ⟨hb, q⟩ := q
      simp only [Int.sub_zero]
      rw [if_pos hb, down_eq]
      exact ok_some.mpr q
    | _ => exact q.elim
def thenK (i : Nat) (QS : Fl → Sm → Prop) : Fl → Sm → Prop
  | .nx e, S => ∃ d, e[i]? = some (.ow d) ∧ QS (.nx (e.set i (.fz d))) S
  | _, _ => False
theorem thenK_nx {i : Nat} {e : DEnv} : thenK i QS (.nx e) S ↔ ∃ d, e[i]? = some (.ow d) ∧ QS (.nx (e.set i (.fz d))) S := Iff.rfl
theorem w_thenF {i : Nat} {a : MS'} : Ok (mThenF i a env S) QS ↔ Ok (a env S) (thenK i QS) := by
  unfold mThenF; simp only [ok_bind]
  constructor <;> refine fun h => h.mono fun f S1 q => ?_
  · cases f with
    | nx e =>
      simp only at q
      split at q
      · rename_i d hd; exact ⟨d, hd, ok_some.mp q⟩
      · exact (ok_none.mp q).elim
    | _ => exact (ok_none.mp q).elim
  · cases f with
    | nx e =>
      obtain ⟨d, hd, q⟩ := q
      simp only [hd]
      exact ok_some.mpr q
    | _ => exact q.elim
theorem w_rng2E {QL : List Dat → Sm → Prop} {a b : M} : Ok (mRng2 (mCons a (mCons b mNil)) env S) QL ↔ Ok (a env S) fun d S1 => Ok (b env S1) fun e S2 => Pu (rngOf [d, e]) fun r => QL r S2 := by
  rw [w_rng2, w_cons]
  constructor <;> refine fun h => h.mono fun d S1 q => ?_
  · rw [w_cons] at q
    refine q.mono fun e S2 q => ?_
    obtain ⟨d', e', h1, q⟩ := (w_nil.mp q)
    cases h1
    exact q
  · rw [w_cons]
    exact q.mono fun e S2 q => w_nil.mpr ⟨d, e, rfl, q⟩
theorem w_dnew : Ok (mDNew env S) Q ↔ Q (.dk []) S := ok_some
theorem w_dput {i : Nat} {k a : M} : Ok (mDPut i k a env S) QS ↔ Ok (a env S) fun d S1 => ∃ ds, env[i]? = some (.ow (.dk ds)) ∧ Ok (k env S1) fun e S2 => ds.length < 1000000 ∧ Pu (dKey e) fun j => QS (.nx (env.set i (.ow (.dk (putD ds j d))))) S2 := by
  unfold mDPut; simp only [ok_bind]
  constructor <;> refine fun h => h.mono fun d S1 q => ?_
  · split at q
    · rename_i ds hd
      refine ⟨ds, hd, ?_⟩
      simp only [ok_bind] at q
      refine q.mono fun e S2 q => ?_
      split at q
      · exact ⟨by assumption, ok_mapP.mp q⟩
      · exact (ok_none.mp q).elim
    · exact (ok_none.mp q).elim
  · obtain ⟨ds, hd, q⟩ := q
    simp only [hd, ok_bind]
    refine q.mono fun e S2 q => ?_
    rw [if_pos q.1]
    exact ok_mapP.mpr q.2
theorem dKey_str {x : Str} {R : Key → Prop} : Pu (dKey (.str x)) R ↔ R (.inr x) := pu_some
theorem dKey_int {x : Int} {R : Key → Prop} : Pu (dKey (.int x)) R ↔ R (.inl x) := pu_some
end
/-! ### targets -/
def nOw : Slo → Prop
  | .ow _ => False
  | _ => True
theorem nOw_no : nOw .no ↔ True := Iff.rfl
theorem nOw_fz {d : Dat} : nOw (.fz d) ↔ True := Iff.rfl
section
variable {env : DEnv} {QE : DEnv → Prop} {d : Dat}
theorem w_bNm {i : Nat} : Pu (bNm i d env) QE ↔ ∃ s, env[i]? = some s ∧ nOw s ∧ QE (env.set i (.fz d)) := by
  unfold bNm
  split
  · rename_i e h
    rw [pu_none, h]
    exact ⟨False.elim, fun ⟨s, e1, n, _⟩ => by cases e1; exact n⟩
  · rename_i h
    rw [pu_none, h]
    exact ⟨False.elim, fun ⟨s, e1, _⟩ => by cases e1⟩
  · rename_i h1 h2
    rw [pu_some]
    constructor
    · intro q
      cases e : env[i]? with
      | none => exact (h2 e).elim
      | some s => exact ⟨s, rfl, (by cases s with | ow x => exact (h1 x e).elim | _ => trivial), q⟩
    · rintro ⟨_, _, _, q⟩; exact q
theorem w_bTup {n : Nat} {c : MGs} {ds : List Dat} : Pu (bTup n c (.tup ds) env) QE ↔ ds.length = n ∧ Pu (c ds env) QE := by
  show Pu (if ds.length = n then c ds env else none) QE ↔ _
  by_cases h : ds.length = n
  · rw [if_pos h]; exact ⟨fun q => ⟨h, q⟩, fun q => q.2⟩
  · rw [if_neg h, pu_none]; exact ⟨False.elim, fun q => h q.1⟩
theorem w_bTupP {n : Nat} {c : MGs} {w : Str × Int} : Pu (bTup n c (pairD w) env) QE ↔ 2 = n ∧ Pu (c [.str w.1, .int w.2] env) QE := w_bTup
def pairN (p : Nat × Nat) : Dat := .tup [.int p.1, .int p.2]
theorem w_bTupN {n : Nat} {c : MGs} {p : Nat × Nat} : Pu (bTup n c (pairN p) env) QE ↔ 2 = n ∧ Pu (c [.int p.1, .int p.2] env) QE := w_bTup
theorem w_bCons {b : MG} {c : MGs} {r : List Dat} : Pu (bCons b c (d :: r) env) QE ↔ Pu (b d env) fun e1 => Pu (c r e1) QE := by
  show Pu ((b d env).bind fun env1 => c r env1) QE ↔ _
  cases b d env with
  | none => rw [pu_none]; exact pu_none
  | some e => rw [pu_some]; exact Iff.rfl
theorem w_bNil : Pu (bNil [] env) QE ↔ QE env := pu_some
end
/-! ### loops over a known list -/
theorem ok_forL {α : Type} {b : MG} {body : MS'} {QS : Fl → Sm → Prop} (g : α → Dat) (xs : List α) (J : List α → DEnv → Sm → Prop)
    (hd : ∀ pre x post env S, xs = pre ++ x :: post → J pre env S → Pu (b (g x) env) fun env1 => Ok (body env1 S) (loopK (J (pre ++ [x])) QS)) (h0 : ∀ env S, J xs env S → QS (.nx env) S) (env : DEnv) (S : Sm) (j : J [] env S) : Ok (forGo b body (xs.map g) env S) QS := by
  refine ok_forGo (J := fun ds env S => ∃ pre post, xs = pre ++ post ∧ ds = post.map g ∧ J pre env S) ?_ ?_ _ _ _ ⟨[], xs, rfl, rfl, j⟩
  · rintro d ds env S ⟨pre, post, e, e2, j⟩
    cases post with
    | nil => cases e2
    | cons x post =>
      cases e2
      obtain ⟨env1, h1, f, S1, h2, q⟩ := hd pre x post env S e j
      refine ⟨env1, h1, f, S1, h2, ?_⟩
      have e3 : xs = (pre ++ [x]) ++ post := by rw [e, List.append_assoc]; rfl
      cases f with
      | nx e => exact ⟨_, post, e3, rfl, q⟩
      | ct e => exact ⟨_, post, e3, rfl, q⟩
      | bk e => exact q
      | rt d => exact q
  · rintro env S ⟨pre, post, e, e2, j⟩
    cases post with
    | nil => rw [List.append_nil] at e; subst e; exact h0 env S j
    | cons x post => cases e2
theorem ok_forN {b : MG} {body : MS'} {QS : Fl → Sm → Prop} (lo n : Nat) (J : Nat → DEnv → Sm → Prop)
    (hd : ∀ k env S, k < n → J k env S → Pu (b (.int (lo + k : Nat)) env) fun env1 => Ok (body env1 S) (loopK (J (k + 1)) QS)) (h0 : ∀ env S, J n env S → QS (.nx env) S) (env : DEnv) (S : Sm) (j : J 0 env S) : Ok (forGo b body (rngD lo n) env S) QS := by
  have e : rngD (lo : Int) n = (List.range n).map fun k => Dat.int (lo + k : Nat) := by
    unfold rngD
    exact List.map_congr_left fun k _ => by rw [Int.natCast_add]
  rw [e]
  refine ok_forL _ _ (fun pre env S => J pre.length env S) ?_ ?_ env S j
  · intro pre x post env S e j
    have hx : x = pre.length := by
      have h := congrArg (fun l : List Nat => l[pre.length]?) e
      simp only [List.getElem?_append_right (Nat.le_refl _), Nat.sub_self, List.getElem?_cons_zero] at h
      have hl := congrArg List.length e
      rw [List.length_range, List.length_append, List.length_cons] at hl
      rw [List.getElem?_range (by omega)] at h
      exact (Option.some.inj h).symm
    have hn : pre.length < n := by
      have hl := congrArg List.length e
      rw [List.length_range, List.length_append, List.length_cons] at hl
      omega
    subst hx
    obtain ⟨env1, h1, f, S1, h2, q⟩ := hd pre.length env S hn j
    refine ⟨env1, h1, f, S1, h2, ?_⟩
    cases f with
    | nx e => show J _ _ _; rw [List.length_append]; exact q
    | ct e => show J _ _ _; rw [List.length_append]; exact q
    | bk e => exact q
    | rt d => exact q
  · intro env S j
    rw [List.length_range] at j
    exact h0 env S j
theorem downD_succ (n : Nat) : downD (n + 1) = .int n :: downD n := by
  unfold downD
  rw [List.range_succ, List.reverse_append]
  rfl
theorem ok_forDown {b : MG} {body : MS'} {QS : Fl → Sm → Prop} (J : Nat → DEnv → Sm → Prop) (h0 : ∀ env S, J 0 env S → QS (.nx env) S) : ∀ (n : Nat) (hd : ∀ k env S, k < n → J (k + 1) env S → Pu (b (.int (k : Nat)) env) fun env1 => Ok (body env1 S) (loopK (J k) QS)) (env : DEnv) (S : Sm), J n env S → Ok (forGo b body (downD n) env S) QS
  | 0, _, env, S, j => ok_some.mpr (h0 env S j)
  | n + 1, hd, env, S, j => by
    have ih := ok_forDown J h0 n fun k env S hk j => hd k env S (by omega) j
    rw [downD_succ]
    obtain ⟨env1, h1, f, S1, h2, q⟩ := hd n env S (by omega) j
    unfold forGo
    rw [h1, Option.bind_some, h2, Option.bind_some]
    cases f with
    | nx e => exact ih e S1 q
    | ct e => exact ih e S1 q
    | bk e => exact ok_some.mpr q
    | rt d => exact ok_some.mpr q
theorem ixN_nat {n i : Nat} (h : i < n) : ixN n (i : Int) = some i := by
  unfold ixN
  rw [if_pos (by omega), if_pos (by omega)]
  congr 1
theorem fm_cong {α β : Type} {f g : α → List β} : ∀ {l : List α}, (∀ a ∈ l, f a = g a) → l.flatMap f = l.flatMap g
  | [], _ => rfl
  | a :: l, h => by rw [List.flatMap_cons, List.flatMap_cons, h a List.mem_cons_self, fm_cong fun b hb => h b (List.mem_cons_of_mem _ hb)]
theorem atI_last {α : Type} {xs : List α} : atI xs (-1) = xs.getLast? := by
  unfold atI ixN
  rw [if_neg (by decide), List.getLast?_eq_getElem?]
  by_cases h : -(xs.length : Int) ≤ -1
  · rw [if_pos h]
    show xs[((-1 : Int) + xs.length).toNat]? = _
    congr 1
    omega
  · rw [if_neg h]
    have : xs.length = 0 := by omega
    rw [List.eq_nil_of_length_eq_zero this]
    rfl
/-- the part of a text -/
def sub (x : Str) (i j : Nat) : Str := strOf ((x.cps.toList.drop i).take (j - i))
theorem cutS_sub (x : Str) (i j : Nat) (h : i ≤ x.length) (hj : j ≤ x.length) : cutS x (some (i : Int)) (some (j : Int)) = sub x i j := by
  refine str_ext ?_
  show (x.cps.toList.drop (HT.sIx x.length 0 (some (i : Int)))).take (HT.sIx x.length x.length (some (j : Int)) - HT.sIx x.length 0 (some (i : Int))) = (x.cps.toList.drop i).take (j - i)
  rw [HT.sIx_nat, HT.sIx_nat, Nat.min_eq_left h, Nat.min_eq_left hj]
theorem sub_len (x : Str) (i j : Nat) : (sub x i j).length = min (j - i) (x.length - i) := by
  unfold sub
  rw [strOf_len, List.length_take, List.length_drop, len_cps]
def pre (x : Str) (k : Nat) : Str := strOf (x.cps.toList.take k)
theorem pre_len (x : Str) (k : Nat) : (pre x k).length = min k x.length := by unfold pre; rw [strOf_len, List.length_take, len_cps]
theorem cutS_pre (x : Str) (k : Nat) : cutS x none (some (k : Int)) = pre x k := by
  refine str_ext ?_
  show ((x.cps.toList.drop (HT.sIx x.length 0 none)).take (HT.sIx x.length x.length (some (k : Int)) - HT.sIx x.length 0 none)) = x.cps.toList.take k
  rw [show HT.sIx x.length 0 none = 0 from rfl, List.drop_zero, Nat.sub_zero, HT.sIx_nat]
  by_cases h : k ≤ x.length
  · rw [Nat.min_eq_left h]
  · rw [Nat.min_eq_right (by omega), len_cps, List.take_length, List.take_of_length_le (by rw [← len_cps]; omega)]
/-- y begins at i; y ends at j -/
def St (x : Str) (i : Nat) (y : Str) : Bool := decide (y.cps.toList <+: x.cps.toList.drop i)
def En (x : Str) (j : Nat) (y : Str) : Bool := decide (y.cps.toList <:+ x.cps.toList.take j)
theorem starts3 {x y : Str} {i : Nat} (h : 1 ≤ y.length) : Txt.startswith3 x y (i : Int) = St x i y := by
  have e : fromIndex x.length (i : Int) = i := by
    unfold fromIndex
    rw [if_neg (by omega)]
    omega
  unfold Txt.startswith3 St
  rw [e, PySem.StrLaws.subAt_eq, Bool.eq_iff_iff, Bool.and_eq_true, decide_eq_true_eq, decide_eq_true_eq, beq_iff_eq, List.prefix_iff_eq_take, len_cps y]
  constructor
  · rintro ⟨_, h2⟩; exact h2.symm
  · intro h2
    refine ⟨?_, h2.symm⟩
    have := congrArg List.length h2
    rw [List.length_take, List.length_drop, ← len_cps, ← len_cps] at this
    rw [← len_cps]
    omega
theorem ends4_ {x y : Str} {j : Nat} (h : j ≤ x.length) (h1 : 1 ≤ y.length) : ends4 x y 0 (j : Int) = En x j y := by
  have e : fromIndex x.length (j : Int) = j := by
    unfold fromIndex
    rw [if_neg (by omega)]
    omega
  have e0 : fromIndex x.length (0 : Int) = 0 := by
    unfold fromIndex
    rw [if_neg (by omega)]
    rfl
  unfold ends4 En
  rw [e, e0, Nat.min_eq_left h, PySem.StrLaws.subAt_eq, Bool.eq_iff_iff, Bool.and_eq_true, decide_eq_true_eq, decide_eq_true_eq, beq_iff_eq, List.suffix_iff_eq_drop, Nat.zero_add, len_cps y, List.length_take, ← len_cps x, Nat.min_eq_left h]
  have hd : y.cps.toList.length ≤ j → (x.cps.toList.take j).drop (j - y.cps.toList.length) = (x.cps.toList.drop (j - y.cps.toList.length)).take y.cps.toList.length := fun hy => by
    rw [List.drop_take]
    congr 1
    omega
  constructor
  · rintro ⟨h2, h3⟩; rw [hd h2]; exact h3.symm
  · intro h2
    have := congrArg List.length h2
    rw [List.length_drop, List.length_take, ← len_cps, ← len_cps] at this
    have hy : y.cps.toList.length ≤ j := by rw [← len_cps]; omega
    exact ⟨hy, by rw [← hd hy]; exact h2.symm⟩
theorem lt_irr_app : ∀ (b t : List Nat), ¬ (b ++ t < b)
  | [], t, h => by cases t <;> cases h
  | a :: b, t, h => by
    rw [List.cons_append, List.cons_lt_cons_iff] at h
    rcases h with h | ⟨_, h⟩
    · exact Nat.lt_irrefl _ h
    · exact lt_irr_app b t h
theorem pre_lt {a b r : List Nat} (ha : a <+: r) (hb : b <+: r) (h : a < b) : a.length < b.length := by
  by_cases hl : a.length < b.length
  · exact hl
  · obtain ⟨t, e⟩ := List.prefix_of_prefix_length_le hb ha (by omega)
    rw [← e] at h
    exact (lt_irr_app b t h).elim
/-! ### lists that an order makes unique -/
theorem pw_unique {α : Type} {R : α → α → Prop} (irr : ∀ a, ¬ R a a) (asy : ∀ a b, R a b → ¬ R b a) : ∀ {xs ys : List α}, xs.Pairwise R → ys.Pairwise R → (∀ a, a ∈ xs ↔ a ∈ ys) → xs = ys
  | [], [], _, _, _ => rfl
  | [], y :: ys, _, _, h => by have := (h y).mpr List.mem_cons_self; cases this
  | x :: xs, [], _, _, h => by have := (h x).mp List.mem_cons_self; cases this
  | x :: xs, y :: ys, hx, hy, h => by
    rw [List.pairwise_cons] at hx hy
    have e : x = y := by
      rcases List.mem_cons.mp ((h x).mp List.mem_cons_self) with e | e
      · exact e
      · rcases List.mem_cons.mp ((h y).mpr List.mem_cons_self) with e2 | e2
        · exact e2.symm
        · exact (asy _ _ (hx.1 y e2) (hy.1 x e)).elim
    subst e
    have t : xs = ys := pw_unique irr asy hx.2 hy.2 fun a => by
      constructor
      · intro ha
        rcases List.mem_cons.mp ((h a).mp (List.mem_cons_of_mem _ ha)) with e | e
        · subst e; exact (irr _ (hx.1 _ ha)).elim
        · exact e
      · intro ha
        rcases List.mem_cons.mp ((h a).mpr (List.mem_cons_of_mem _ ha)) with e | e
        · subst e; exact (irr _ (hy.1 _ ha)).elim
        · exact e
    rw [t]
/-- shorter, or as long and before it -/
def LL (x y : Str) : Prop := x.length < y.length ∨ (x.length = y.length ∧ x.cps.toList < y.cps.toList)
theorem LL.irr (a : Str) : ¬ LL a a := fun h => h.elim (Nat.lt_irrefl _) fun h => List.lt_irrefl _ h.2
theorem LL.asy (a b : Str) (h : LL a b) : ¬ LL b a := fun k => by
  rcases h with h | ⟨h, h2⟩ <;> rcases k with k | ⟨k, k2⟩
  · omega
  · omega
  · omega
  · exact List.lt_irrefl _ (List.lt_trans h2 k2)
theorem two_sub {α : Type} {a b : α} : ∀ {l : List α}, l.Nodup → [a, b].Sublist l → [b, a].Sublist l → False
  | [], _, h, _ => by cases h
  | x :: l, n, h1, h2 => by
    rw [List.nodup_cons] at n
    cases h1 with
    | cons _ h1 => cases h2 with
      | cons _ h2 => exact two_sub n.2 h1 h2
      | cons_cons _ h2 => exact n.1 (h1.subset (by simp))
    | cons_cons _ h1 => cases h2 with
      | cons _ h2 => exact n.1 (h2.subset (by simp))
      | cons_cons _ h2 => exact n.1 (h1.subset (by simp))
theorem two_of {α : Type} {a b : α} : ∀ {l : List α}, a ∈ l → b ∈ l → a ≠ b → [a, b].Sublist l ∨ [b, a].Sublist l
  | [], h, _, _ => by cases h
  | x :: l, ha, hb, ne => by
    rcases List.mem_cons.mp ha with e1 | h1
    · rcases List.mem_cons.mp hb with e2 | h2
      · exact (ne (e1.trans e2.symm)).elim
      · exact .inl (e1 ▸ (List.singleton_sublist.mpr h2).cons_cons _)
    · rcases List.mem_cons.mp hb with e2 | h2
      · exact .inr (e2 ▸ (List.singleton_sublist.mpr h1).cons_cons _)
      · rcases two_of h1 h2 ne with h | h
        · exact .inl (h.cons _)
        · exact .inr (h.cons _)
theorem sortLen_LL {xs : List Str} (h : xs.Pairwise fun a b => a.cps.toList < b.cps.toList) : (sortLen xs).Pairwise LL := by
  have e : (PySem.W.dataLe false fun x : Str => PyData.int x.length) = fun a b => decide ((a.length : Int) ≤ b.length) := PySem.W.dataLe_int fun x : Str => (x.length : Int)
  unfold sortLen
  rw [e]
  have tr : ∀ a b c : Str, decide ((a.length : Int) ≤ b.length) = true → decide ((b.length : Int) ≤ c.length) = true → decide ((a.length : Int) ≤ c.length) = true := fun a b c h1 h2 => decide_eq_true (Int.le_trans (of_decide_eq_true h1) (of_decide_eq_true h2))
  have to : ∀ a b : Str, (decide ((a.length : Int) ≤ b.length) || decide ((b.length : Int) ≤ a.length)) = true := fun a b => by
    rw [Bool.or_eq_true, decide_eq_true_eq, decide_eq_true_eq]; omega
  have s := List.pairwise_mergeSort (le := fun a b : Str => decide ((a.length : Int) ≤ b.length)) tr to xs
  have n : (xs.mergeSort fun a b : Str => decide ((a.length : Int) ≤ b.length)).Nodup := (List.mergeSort_perm _ _).nodup_iff.mpr (nodup_of_lt h)
  rw [List.pairwise_iff_forall_sublist] at s ⊢
  intro a b hab
  have hl := of_decide_eq_true (s hab)
  by_cases h1 : a.length < b.length
  · exact .inl h1
  · refine .inr ⟨by omega, ?_⟩
    have ma : a ∈ xs := (List.mergeSort_perm _ _).mem_iff.mp (hab.subset (by simp))
    have mb : b ∈ xs := (List.mergeSort_perm _ _).mem_iff.mp (hab.subset (by simp))
    have ne : a ≠ b := fun e => by
      subst e
      have := List.pairwise_iff_forall_sublist.mp n hab
      exact this rfl
    by_cases hlt : a.cps.toList < b.cps.toList
    · exact hlt
    · -- b stands before a in xs
      have hle : b.cps.toList ≤ a.cps.toList := List.not_lt.mp hlt
      have hba : [b, a].Sublist xs := by
        rcases two_of ma mb ne with h3 | h3
        · exact (hlt (List.pairwise_iff_forall_sublist.mp h h3)).elim
        · exact h3
      have := List.pair_sublist_mergeSort (le := fun a b : Str => decide ((a.length : Int) ≤ b.length)) tr to (decide_eq_true (show (b.length : Int) ≤ a.length by omega)) hba
      exact (two_sub n hab this).elim
end PD

namespace PD
open PySem PySem.Spec PyProof.Rows L2
/-! ### the greatest, the least of a tuple of ints -/
def rMaxT (K : PySem.W.Frag) : List V → Hp → VK → Prop := fun vs H Q => ∃ (p : Addr) (zs : List Int), vs = [V.ref p] ∧ SqT K H p (zs.map V.int) ∧ zs ≠ [] ∧ ∀ m ∈ zs, (∀ z ∈ zs, z ≤ m) → Q (.int m) H
def rMinT (K : PySem.W.Frag) : List V → Hp → VK → Prop := fun vs H Q => ∃ (p : Addr) (zs : List Int), vs = [V.ref p] ∧ SqT K H p (zs.map V.int) ∧ zs ≠ [] ∧ ∀ m ∈ zs, (∀ z ∈ zs, m ≤ z) → Q (.int m) H
section
variable {X : Cx} {pins : List (Addr × Obj)} {σ : L2.St} {H : Hp} {s : Shared}
theorem kept_titO {hp h' : Heap} {p : Addr} (hk : ∀ b o, b ∉ [hp.objs.size] → (hp.push (titO p)).get? b = some o → h'.get? b = some o) : ∀ b o, hp.get? b = some o → h'.get? b = some o := fun b o e =>
  hk b o (fun m => by rw [List.mem_singleton] at m; exact absurd (Heap.lt_size e) (by rw [m]; exact Nat.lt_irrefl _)) (Heap.get?_push_of_some _ e)
theorem walk_tup {p : Addr} {its : Array Value} (hd : X.A.in1.in1.handled = none) (hT : Heap.IsTuple s.heap p its) {Q : Value → Shared → Prop} {E : Value → Shared → Prop}
    (q : ∀ s2 : Shared, s2 = { s with heap := s.heap.push (titO p) } → p ≠ s.heap.objs.size → (s2.heap.IsTupleIter s.heap.objs.size p 0 ∧ s2.heap.IsTuple p its) → (∀ b ∈ [s.heap.objs.size, p], b < s2.heap.objs.size) → Q (.ref s.heap.objs.size) s2) :
    wpAny (model X.prog X.w) X.A.in1 (pyIter (.ref p)) Q E s := by
  have lp : p < s.heap.objs.size := by obtain ⟨_, e, _⟩ := hT; exact Heap.lt_size e
  refine (begins_tuple p its).iter _ _ _ _ s _ hT (q _ rfl (Nat.ne_of_lt lp) ⟨⟨_, Heap.get?_push_size _ rfl, rfl, rfl⟩, hT.at fun o e => Heap.get?_push_of_some _ e⟩ fun b hb => ?_)
  show b < (s.heap.push _).objs.size
  rw [Heap.size_push]
  simp only [List.mem_cons, List.not_mem_nil, or_false] at hb
  rcases hb with rfl | rfl
  · exact Nat.lt_succ_self _
  · exact Nat.lt_succ_of_lt lp
theorem nums_at {its : List Value} {zs : List Int} (hi : IntsAre its zs) : ∃ xs : Array (Int × Tok), its.toArray = intItems xs ∧ numsOf (intItems xs).toList = zs := by
  obtain ⟨xs, e⟩ := hi.allInts.items
  exact ⟨xs, e, by rw [← e]; exact hi.numsOf⟩
theorem cr_maxT (hc : X.calm = true) : CallR X (.builtin "max") (rMaxT X.K) := by
  intro pins s σ H vs us Q I r h
  obtain ⟨p, zs, rfl, hs, ne, q⟩ := h
  obtain ⟨its, rv, pT, _⟩ := I.tuple hs
  rw [Vals.ref1 r]
  obtain ⟨xs, e1, e2⟩ := nums_at rv.ints
  have pT := tup_of pT
  rw [e1] at pT
  have e2 := (nums_intItems xs).symm.trans e2
  subst e2
  have hd : X.A.handled = none := I.ok.hd hc
  have zn : 0 < xs.size := by
    rcases Nat.eq_zero_or_pos xs.size with z | z
    · exact (ne (List.map_eq_nil_iff.mpr (List.length_eq_zero_iff.mp (by rw [Array.length_toList]; exact z)))).elim
    · exact z
  refine call_max_walk (walk_tup hd pT fun s2 es np st lt => ?_)
  subst es
  refine ⟨_, _, _, _, _, _, _, rfl, Walks.tuple (A := X.A.in1) hd _ p np (intItems xs), st, lt, by simpa [intItems] using zn, CmpOf.ints_gt (numAt xs) (fun _ _ => intItems_at), fun v h' tk hP hk => ?_⟩
  obtain ⟨t, rfl⟩ := intItems_at hP
  obtain ⟨b1, b2⟩ := argBest_gt (numAt xs) (xs.size - 1)
  have sz : (intItems xs).size = xs.size := by simp [intItems]
  rw [sz]
  refine ⟨.int _, H, I.kept (kept_titO hk), ⟨t, rfl⟩, q _ ?_ fun y hy => ?_⟩
  · rw [numAt_eq]; exact PySem.getD_mem (by rw [List.length_map, Array.length_toList]; omega)
  · obtain ⟨j, hj, rfl⟩ := mem_getD hy
    rw [List.length_map, Array.length_toList] at hj
    rw [← numAt_eq]
    exact b2 j (by omega)
theorem cr_minT (hc : X.calm = true) : CallR X (.builtin "min") (rMinT X.K) := by
  intro pins s σ H vs us Q I r h
  obtain ⟨p, zs, rfl, hs, ne, q⟩ := h
  obtain ⟨its, rv, pT, _⟩ := I.tuple hs
  rw [Vals.ref1 r]
  obtain ⟨xs, e1, e2⟩ := nums_at rv.ints
  have pT := tup_of pT
  rw [e1] at pT
  have e2 := (nums_intItems xs).symm.trans e2
  subst e2
  have hd : X.A.handled = none := I.ok.hd hc
  have zn : 0 < xs.size := by
    rcases Nat.eq_zero_or_pos xs.size with z | z
    · exact (ne (List.map_eq_nil_iff.mpr (List.length_eq_zero_iff.mp (by rw [Array.length_toList]; exact z)))).elim
    · exact z
  refine call_min_walk (walk_tup hd pT fun s2 es np st lt => ?_)
  subst es
  refine ⟨_, _, _, _, _, _, _, rfl, Walks.tuple (A := X.A.in1) hd _ p np (intItems xs), st, lt, by simpa [intItems] using zn, CmpOf.ints_lt (numAt xs) (fun _ _ => intItems_at), fun v h' tk hP hk => ?_⟩
  obtain ⟨t, rfl⟩ := intItems_at hP
  obtain ⟨b1, b2⟩ := argBest_lt (numAt xs) (xs.size - 1)
  have sz : (intItems xs).size = xs.size := by simp [intItems]
  rw [sz]
  refine ⟨.int _, H, I.kept (kept_titO hk), ⟨t, rfl⟩, q _ ?_ fun y hy => ?_⟩
  · rw [numAt_eq]; exact PySem.getD_mem (by rw [List.length_map, Array.length_toList]; omega)
  · obtain ⟨j, hj, rfl⟩ := mem_getD hy
    rw [List.length_map, Array.length_toList] at hj
    rw [← numAt_eq]
    exact b2 j (by omega)
end
def rMaxA (K : PySem.W.Frag) : List V → Hp → VK → Prop := fun vs H Q => rMax K vs H Q ∨ rMaxT K vs H Q
def rMinA (K : PySem.W.Frag) : List V → Hp → VK → Prop := fun vs H Q => rMin K vs H Q ∨ rMinT K vs H Q
theorem cr_maxA {X : Cx} (hc : X.calm = true) {K : PySem.W.Frag} (hK : X.K = K := by rfl) : CallR X (.builtin "max") (rMaxA K) := by
  subst hK
  exact PD.CallR.or (cr_max hc) (cr_maxT hc)
theorem cr_minA {X : Cx} (hc : X.calm = true) {K : PySem.W.Frag} (hK : X.K = K := by rfl) : CallR X (.builtin "min") (rMinA K) := by
  subst hK
  exact PD.CallR.or (cr_min hc) (cr_minT hc)
def gMaxA : List Dat → Option Dat
  | [.tup ds] => gMax [.lst ds]
  | ds => gMax ds
def gMinA : List Dat → Option Dat
  | [.tup ds] => gMin [.lst ds]
  | ds => gMin ds
theorem cs_maxA {K : PySem.W.Frag} : CS (rMaxA K) gMaxA := by
  intro O P H S vs ds z Q I rs eg q
  unfold gMaxA at eg
  split at eg
  · rename_i es
    obtain ⟨v, rfl, r⟩ := rs.one
    obtain ⟨a, ws, rfl, ha, _, l, _⟩ := r.tup
    have eg : (toInts es).bind _ = _ := eg
    cases en : toInts es with
    | none => rw [en] at eg; cases eg
    | some ns =>
      rw [en] at eg
      simp only [Option.bind_some] at eg
      split at eg
      · rename_i hn
        cases eg
        refine .inr ⟨a, ns, rfl, l.ints en ▸ ha.sq, List.ne_nil_of_length_pos hn, fun m m1 m2 => ?_⟩
        obtain ⟨k1, k2⟩ := maxI_spec hn
        have e : m = maxI ns := Int.le_antisymm (k2 m m1) (m2 _ k1)
        rw [e]
        exact q _ H .refl I.sm (.int _)
      · cases eg
  · exact .inl (cs_max O P H S vs _ z Q I rs eg q)
theorem cs_minA {K : PySem.W.Frag} : CS (rMinA K) gMinA := by
  intro O P H S vs ds z Q I rs eg q
  unfold gMinA at eg
  split at eg
  · rename_i es
    obtain ⟨v, rfl, r⟩ := rs.one
    obtain ⟨a, ws, rfl, ha, _, l, _⟩ := r.tup
    have eg : (toInts es).bind _ = _ := eg
    cases en : toInts es with
    | none => rw [en] at eg; cases eg
    | some ns =>
      rw [en] at eg
      simp only [Option.bind_some] at eg
      split at eg
      · rename_i hn
        cases eg
        refine .inr ⟨a, ns, rfl, l.ints en ▸ ha.sq, List.ne_nil_of_length_pos hn, fun m m1 m2 => ?_⟩
        obtain ⟨k1, k2⟩ := minI_spec hn
        have e : m = minI ns := Int.le_antisymm (m2 _ k1) (k2 m m1)
        rw [e]
        exact q _ H .refl I.sm (.int _)
      · cases eg
  · exact .inl (cs_min O P H S vs _ z Q I rs eg q)
theorem gMinA_tup {xs : List Int} {Q : Dat → Prop} (h : 0 < xs.length) : Pu (gMinA [.tup (xs.map .int)]) Q ↔ Q (.int (minI xs)) := by
  have e : gMinA [.tup (xs.map .int)] = some (.int (minI xs)) := by
    show (toInts (xs.map Dat.int)).bind _ = _
    rw [toInts_map, Option.bind_some, if_pos h]
  rw [e, pu_some]
theorem gMaxA_tup {xs : List Int} {Q : Dat → Prop} (h : 0 < xs.length) : Pu (gMaxA [.tup (xs.map .int)]) Q ↔ Q (.int (maxI xs)) := by
  have e : gMaxA [.tup (xs.map .int)] = some (.int (maxI xs)) := by
    show (toInts (xs.map Dat.int)).bind _ = _
    rw [toInts_map, Option.bind_some, if_pos h]
  rw [e, pu_some]
theorem gMinA_lst {ds : List Dat} : gMinA [.lst ds] = gMin [.lst ds] := rfl
theorem gMaxA_lst {ds : List Dat} : gMaxA [.lst ds] = gMax [.lst ds] := rfl
/-! ### methods of lists that change nothing: count, index -/
def MSL (r : V → List V → Hp → VK → Prop) (g : Dat → List Dat → Option Dat) : Prop := ∀ (O : Addr → Prop) (P : Fix) (H : Hp) (S : Sm) (v : V) (ws : List Dat) (vs : List V) (ds : List Dat) (z : Dat) (Q : VK), HI O P H S → RepB O P H v (.lst ws) → RepBL O P H vs ds → g (.lst ws) ds = some z →
  (∀ v H', Fr P H H' → StrmAt P H' S → Rep O P.ps H' v z → Q v H') → r v vs H Q
def mLM (g : Dat → List Dat → Option Dat) (a : M) (b : ML) : M := fun env S => (a env S).bind fun x => match x.1 with
  | .lst ws => (b env x.2).bind fun y => (g (.lst ws) y.1).map fun w => (w, y.2)
  | _ => none
theorem se_mL {K : PySem.W.Frag} {r : V → List V → Hp → VK → Prop} {g : Dat → List Dat → Option Dat} {te : TE} {t : TA} {a : M} {b : ML} (hr : MSL r g) (ha : SB te a) (hb : SAB t b) : SE (tBM K "list" r te t) (mLM g a b) := by
  intro O P σ H env S w Q I e q
  unfold mLM at e
  cases ea : a env S with
  | none => rw [ea] at e; cases e
  | some x =>
    rw [ea] at e
    simp only [Option.bind_some] at e
    split at e
    · rename_i ws hz
      refine ha O P σ H env S x _ I ea fun v H' f s rx => ?_
      rw [hz] at rx
      obtain ⟨p, us, rfl, hp, _, _, _⟩ := rx.lst I.ops
      refine ⟨.inl ⟨rfl, us, SqL.of hp⟩, ?_⟩
      cases eb : b env x.2 with
      | none => rw [eb] at e; cases e
      | some y =>
        rw [eb] at e
        simp only [Option.bind_some] at e
        cases eg : g (.lst ws) y.1 with
        | none => rw [eg] at e; cases e
        | some u =>
          rw [eg] at e
          cases e
          have I1 := I.fr f s
          exact hb O P σ H' env x.2 y _ I1 eb fun vs H2 f2 s2 rs => hr O P H2 y.2 _ ws vs y.1 u Q (I1.fr f2 s2).hi (rx.fr f2 I.ops) rs eg fun v H3 f3 s3 rv => q v H3 ((f.trans f2).trans f3) s3 rv
    · cases e
section
variable {X : Cx} {o e : Expr} {es : List Expr} {to : TE} {t : TA} {a : M} {b : ML} {name : Str} {apos cpos : Pos} {id : String} {r : V → List V → Hp → VK → Prop} {g : Dat → List Dat → Option Dat}
theorem pd_mL (slot : Slot "list" name id) (hty : typeOf (.builtin id) = pure (.type "method_descriptor")) (hm : MtR X id r) (hs : MSL r g) (ho : PDB X o to a) (ha : PDAB X (e :: es) t b)
    (hbase : attributeBase o name X.env (eval o X.env) = eval o X.env := by rfl)
    (hfew : ((backTo cpos (starEach (e :: es) X.env)).all (fun x => !x.1) && (backToKw cpos (keywordEach [] X.env)).all (fun x => x.1.isSome)
      && decide ((e :: es).length + ([] : List Keyword).length + (if ([] : List Keyword).isEmpty then 0 else 1) < 30)) = true := by rfl)
    (hline : (apos.endLine == cpos.line) = true := by rfl) (hs' : starEach (e :: es) X.env = (false, eval e X.env) :: starEach es X.env := by rfl) (hplain : (backTo cpos (starEach es X.env)).any (·.1) = false := by rfl) :
    PDE X (.Call (.Attribute o name apos) (e :: es) [] cpos) (tBM X.K "list" r to t) (mLM g a b) := ⟨pe_bm PySem.F.plainAttrs_list slot hty hm ho.pe ha.pa hbase hfew hline hs' hplain, se_mL hs ho.sem ha.sem⟩
end
def gCount : Dat → List Dat → Option Dat
  | .lst ws, [.int k] => (toInts ws).map fun ns => .int (ns.count k : Nat)
  | _, _ => none
theorem mt_countK {X : Cx} {K : PySem.W.Frag} (hK : X.K = K := by rfl) : MtR X "list.count" (rCntI K) := by
  subst hK
  exact mt_lcount
theorem ms_count {K : PySem.W.Frag} : MSL (rCntI K) gCount := by
  intro O P H S v ws vs ds z Q I rv rs eg q
  unfold gCount at eg
  split at eg
  · rename_i es k e1
    cases e1
    obtain ⟨u, rfl, ru⟩ := rs.one
    cases ru.int
    obtain ⟨p, us, rfl, hp, _, l, _⟩ := rv.lst I.ops
    cases en : toInts ws with
    | none => rw [en] at eg; cases eg
    | some ns =>
      rw [en] at eg
      cases eg
      exact ⟨p, ns, k, rfl, rfl, l.ints en ▸ SqL.of hp, q _ H .refl I.sm (.int _)⟩
  · cases eg
def gIndex : Dat → List Dat → Option Dat
  | .lst ws, [d] => match toPyL ws, toPy d with
    | some xs, some x => if (SeqAt.shaped x && SeqAt.shaped (.list xs)) = true then (xs.findIdx? fun z => PyData.eqv z x).map fun j => .int (j : Nat) else none
    | _, _ => none
  | _, _ => none
theorem mt_indexK {X : Cx} {k : Nat} (hr : Room k X.A) {K : PySem.W.Frag} (hK : X.K = K := by rfl) : MtR X "list.index" (rIndexD K) := by
  subst hK
  exact mt_indexD (hu65 hr)
theorem ms_index {K : PySem.W.Frag} : MSL (rIndexD K) gIndex := by
  intro O P H S v ws vs ds z Q I rv rs eg q
  unfold gIndex at eg
  split at eg
  · rename_i es d e1
    cases e1
    obtain ⟨u, rfl, ru⟩ := rs.one
    split at eg
    · rename_i xs x e1 e2
      split at eg
      · rename_i ok
        rw [Bool.and_eq_true] at ok
        cases ej : xs.findIdx? fun z => PyData.eqv z x with
        | none => rw [ej] at eg; cases eg
        | some j =>
          rw [ej] at eg
          cases eg
          obtain ⟨jl, j1, j2⟩ := List.findIdx?_eq_some_iff_getElem.mp ej
          obtain ⟨p, us, rfl, _⟩ := rv.lst I.ops
          refine ⟨p, u, x, xs, j, xs[j], rfl, rfl, rv.dp (show toPy (.lst ws) = some (.list xs) by unfold toPy; rw [e1]), ru.dp e2, ok.2, ok.1, List.getElem?_eq_getElem jl, j1, fun m z' hm hz => ?_, q _ H .refl I.sm (.int _)⟩
          obtain ⟨ml, rfl⟩ := List.getElem?_eq_some_iff.mp hz
          have := j2 m hm
          simpa using this
      · cases eg
    · cases eg
  · cases eg
theorem w_mL {g : Dat → List Dat → Option Dat} {a : M} {b : ML} {env : DEnv} {S : Sm} {Q : Dat → Sm → Prop} : Ok (mLM g a b env S) Q ↔ Ok (a env S) fun d S1 => ∃ ws, d = .lst ws ∧ Ok (b env S1) fun ds S2 => Pu (g (.lst ws) ds) fun w => Q w S2 := by
  unfold mLM
  simp only [ok_bind]
  constructor <;> refine fun h => h.mono fun d S1 q => ?_
  · cases d with
    | lst ws =>
      simp only [ok_bind, ok_mapP] at q
      exact ⟨ws, rfl, q⟩
    | _ => exact (ok_none.mp q).elim
  · obtain ⟨ws, rfl, q⟩ := q
    simp only [ok_bind, ok_mapP]
    exact q
theorem gCount_ints {xs : List Int} {k : Int} {Q : Dat → Prop} : Pu (gCount (.lst (xs.map .int)) [.int k]) Q ↔ Q (.int (xs.count k : Nat)) := by
  have e : gCount (.lst (xs.map .int)) [.int k] = some (.int (xs.count k : Nat)) := by
    show (toInts (xs.map Dat.int)).map _ = _
    rw [toInts_map]; rfl
  rw [e, pu_some]
end PD

namespace PD
open PySem PySem.Spec PyProof.Rows L2 RZ
/-! ### zip of two lists, of two tuples: each pair is a new tuple that stays -/
abbrev twoO (u v : Value) : Obj := { cls := .type "tuple", data := .seq #[u, v] }
def yldP (Sq : Hp → Addr → List V → Prop) (a b : Addr) (n : Nat) (H : Hp) (r : V) (H' : Hp) : Prop :=
  ∃ (T : Addr) (x y : V) (ob : Obj), r = .ref T ∧ H T = none ∧ ob.dict = none ∧ H' = upd H T (.frz ob (.tup [x, y])) ∧ (∀ xs, Sq H a xs → xs[n]? = some x) ∧ ∀ ys, Sq H b ys → ys[n]? = some y
def ItzF (K : PySem.W.Frag) (a b : Addr) : It := ⟨(Itz K a b).go, yldP (SqL K) a b, (Itz K a b).stop⟩
def ItzG (K : PySem.W.Frag) (a b : Addr) : It := ⟨(ItzT K a b).go, yldP (SqT K) a b, (ItzT K a b).stop⟩
theorem two_in {X : Cx} {pins : List (Addr × Obj)} {σ : L2.St} {H : Hp} {s : Shared} {ch : List Addr} (I : Inv X pins σ H s) (hf : ∀ b ∈ ch, FpOk X pins H b) {g : Heap} {x y : V} {u v : Value} (rx : RelV x u) (ry : RelV y v)
    (e : g.get? s.heap.objs.size = some (twoO u v)) (k : ∀ b o, b ∉ ch → s.heap.get? b = some o → g.get? b = some o) : Inv X pins σ (upd H s.heap.objs.size (.frz (twoO u v) (.tup [x, y]))) { s with heap := g } :=
  I.turnedNew (t' := s.toks) (ch := ch) k hf (Nat.le_refl _) ⟨e, by show 2 ≤ sizeLine; decide, [u, v], .cons rx (.cons ry .nil), ⟨_, e, rfl, _, rfl⟩⟩
section
variable {P : Program} {w : World} {K : PySem.W.Frag} {elts : List Expr} {kk : Nat} {tpos : Pos} {a b z TI TO i1 i2 : Addr}
theorem turn_zipF (D : ZipApart z TI TO i1 i2 a b) :
    Turn P w K (.Tuple elts kk tpos) (ItzF K a b) [z, TI, TO, i1, i2] z (fun n h => IsZip h z TI TO .none ∧ IsPair h TI (.ref i1) (.ref i2) ∧ (∃ x y, IsPair h TO x y) ∧ h.IsListIter i1 a n ∧ h.IsListIter i2 b n) where
  mem := List.mem_cons_self
  obj := (turn_zip (P := P) (w := w) (K := K) (elts := elts) (kk := kk) (tpos := tpos) D).obj
  keep := (turn_zip (P := P) (w := w) (K := K) (elts := elts) (kk := kk) (tpos := tpos) D).keep
  done := (turn_zip (P := P) (w := w) (K := K) (elts := elts) (kk := kk) (tpos := tpos) D).done
  self := (turn_zip (P := P) (w := w) (K := K) (elts := elts) (kk := kk) (tpos := tpos) D).self
  item := by
    intro X eP ew eK hc n pins s σ H E I hf st hg
    subst eP ew eK
    have small : ∀ c ∈ [z, TI, TO, i1, i2], c ≠ s.heap.objs.size := fun c hc' q => by
      obtain ⟨o, ho, _⟩ := (turn_zip (P := X.prog) (w := X.w) (K := X.K) (elts := elts) (kk := kk) (tpos := tpos) D).obj n s.heap st c hc'
      exact absurd (Heap.lt_size ho) (by rw [q]; exact Nat.lt_irrefl _)
    obtain ⟨zz, zI, ⟨p0, q0, zO⟩, k1, k2⟩ := st
    obtain ⟨xs, ys, x, y, sx, sy, ex, ey⟩ := hg
    obtain ⟨us, rx, px, _⟩ := I.list sx
    obtain ⟨vs, ry, py, _⟩ := I.list sy
    obtain ⟨u, hu, ru⟩ := rx.get ex
    obtain ⟨v, hv, rv⟩ := ry.get ey
    refine wpAny_pyNext_zip_item D zz zI zO k1 k2 px.isList py.isList (x := u) (y := v) (by simpa using hu) (by simpa using hv) fun g gz gO g1 g2 gT _ gk => ?_
    refine ⟨_, rfl, wpAny_letOwnedTupleGo_zip (s := { s with heap := g }) gz fun g' gz' sb => ?_⟩
    have eT : g'.get? s.heap.objs.size = some (twoO u v) := (sb.2 _ fun q => small z List.mem_cons_self q.symm).trans gT
    refine ⟨.ref s.heap.objs.size, _, two_in I hf ru rv eT fun c o nc q => ?_, rfl, ⟨_, x, y, _, rfl, I.hok.fresh (Nat.le_refl _), rfl, rfl, fun l q => ?_, fun l q => ?_⟩, ⟨gz', ?_, ⟨u, v, ?_⟩, ?_, ?_⟩, fun c hc' => ?_⟩
    · have n1 : c ≠ z := fun q' => nc (by simp [q'])
      exact (sb.2 c n1).trans (gk c o n1 (fun q' => nc (by simp [q'])) (fun q' => nc (by simp [q'])) (fun q' => nc (by simp [q'])) q)
    · rw [I.list_inj q sx]; exact ex
    · rw [I.list_inj q sy]; exact ey
    · exact (sb.2 _ D.TIz).trans (gk _ _ D.TIz D.TITO D.TIi1 D.TIi2 zI)
    · exact (sb.2 _ D.TOz).trans gO
    · exact g1.at fun o q => (sb.2 _ D.i1z).trans q
    · exact g2.at fun o q => (sb.2 _ D.i2z).trans q
    · rw [upd_ne (small c hc')]
      exact (hf c hc').1
theorem turn_zipG (D : ZipApart z TI TO i1 i2 a b) :
    Turn P w K (.Tuple elts kk tpos) (ItzG K a b) [z, TI, TO, i1, i2] z (fun n h => IsZip h z TI TO .none ∧ IsPair h TI (.ref i1) (.ref i2) ∧ (∃ x y, IsPair h TO x y) ∧ h.IsTupleIter i1 a n ∧ h.IsTupleIter i2 b n) where
  mem := List.mem_cons_self
  obj := (turn_zipT (P := P) (w := w) (K := K) (elts := elts) (kk := kk) (tpos := tpos) D).obj
  keep := (turn_zipT (P := P) (w := w) (K := K) (elts := elts) (kk := kk) (tpos := tpos) D).keep
  done := (turn_zipT (P := P) (w := w) (K := K) (elts := elts) (kk := kk) (tpos := tpos) D).done
  self := (turn_zipT (P := P) (w := w) (K := K) (elts := elts) (kk := kk) (tpos := tpos) D).self
  item := by
    intro X eP ew eK hc n pins s σ H E I hf st hg
    subst eP ew eK
    have small : ∀ c ∈ [z, TI, TO, i1, i2], c ≠ s.heap.objs.size := fun c hc' q => by
      obtain ⟨o, ho, _⟩ := (turn_zipT (P := X.prog) (w := X.w) (K := X.K) (elts := elts) (kk := kk) (tpos := tpos) D).obj n s.heap st c hc'
      exact absurd (Heap.lt_size ho) (by rw [q]; exact Nat.lt_irrefl _)
    obtain ⟨zz, zI, ⟨p0, q0, zO⟩, k1, k2⟩ := st
    obtain ⟨xs, ys, x, y, sx, sy, ex, ey⟩ := hg
    obtain ⟨us, rx, px, _⟩ := I.tuple sx
    obtain ⟨vs, ry, py, _⟩ := I.tuple sy
    obtain ⟨u, hu, ru⟩ := rx.get ex
    obtain ⟨v, hv, rv⟩ := ry.get ey
    refine pyNext_zipT_item D zz zI zO k1 k2 px py (x := u) (y := v) (by simpa using hu) (by simpa using hv) fun g gz gO g1 g2 gT _ gk => ?_
    refine ⟨_, rfl, wpAny_letOwnedTupleGo_zip (s := { s with heap := g }) gz fun g' gz' sb => ?_⟩
    have eT : g'.get? s.heap.objs.size = some (twoO u v) := (sb.2 _ fun q => small z List.mem_cons_self q.symm).trans gT
    refine ⟨.ref s.heap.objs.size, _, two_in I hf ru rv eT fun c o nc q => ?_, rfl, ⟨_, x, y, _, rfl, I.hok.fresh (Nat.le_refl _), rfl, rfl, fun l q => ?_, fun l q => ?_⟩, ⟨gz', ?_, ⟨u, v, ?_⟩, ?_, ?_⟩, fun c hc' => ?_⟩
    · have n1 : c ≠ z := fun q' => nc (by simp [q'])
      exact (sb.2 c n1).trans (gk c o n1 (fun q' => nc (by simp [q'])) (fun q' => nc (by simp [q'])) (fun q' => nc (by simp [q'])) q)
    · rw [I.tuple_inj q sx]; exact ex
    · rw [I.tuple_inj q sy]; exact ey
    · exact (sb.2 _ D.TIz).trans (gk _ _ D.TIz D.TITO D.TIi1 D.TIi2 zI)
    · exact (sb.2 _ D.TOz).trans gO
    · exact g1.at fun o q => (sb.2 _ D.i1z).trans q
    · exact g2.at fun o q => (sb.2 _ D.i2z).trans q
    · rw [upd_ne (small c hc')]
      exact (hf c hc').1
end
def iZipF (K : PySem.W.Frag) (ta : TA) : TI := fun σ H R => ta σ H fun vs H1 => ∃ a b xs ys, vs = [.ref a, .ref b] ∧ ((SqL K H1 a xs ∧ SqL K H1 b ys ∧ R (ItzF K a b) H1) ∨ (SqT K H1 a xs ∧ SqT K H1 b ys ∧ R (ItzG K a b) H1))
theorem five_le {n c : Nat} (h : c ∈ [n + 4, n + 2, n + 3, n, n + 1]) : n ≤ c := by
  simp only [List.mem_cons, List.not_mem_nil, or_false] at h
  omega
theorem pi_zipF {X : Cx} {e e2 : Expr} {ta : TA} {p pos tpos : Pos} {elts : List Expr} {kk : Nat} (hg : Gl X "zip") (hm : X.mg "zip" = none) (ha : PA X [e, e2] ta)
    (hs : starEach [e, e2] X.env = (false, eval e X.env) :: starEach [e2] X.env := by rfl) (hpl : (backTo pos (starEach [e2] X.env)).any (·.1) = false := by rfl) :
    PI X (.Tuple elts kk tpos) (.Call (.Name "zip" p) [e, e2] [] pos) (iZipF X.K ta) := by
  refine ⟨fun pins s σ H R I h => Call_ (ld_blt I hg hm PyProof.Rows.boot_zip (PyProof.Rows.callWith_type1 (thn (ha.run pos pins s σ H _ I h) fun us s1 ⟨vs, H1, I1, r1, a, b, xs, ys, ev, d⟩ => ?_) hs hpl))⟩
  subst ev
  obtain ⟨u, v, rfl, ru, rv⟩ : ∃ u v, us = [u, v] ∧ RelV (.ref a) u ∧ RelV (.ref b) v := by
    cases r1 with
    | cons r rr =>
      cases rr with
      | cons r' rr => cases rr; exact ⟨_, _, rfl, r, r'⟩
  cases ru
  cases rv
  have five : ∀ c ∈ [s1.heap.objs.size + 4, s1.heap.objs.size + 2, s1.heap.objs.size + 3, s1.heap.objs.size, s1.heap.objs.size + 1], FpOk X pins H1 c := fun c hc => I1.fpOk (five_le hc) (I1.hok.fresh (five_le hc))
  rcases d with ⟨q1, q2, r⟩ | ⟨q1, q2, r⟩
  · obtain ⟨is1, _, p1, _⟩ := I1.list q1
    obtain ⟨is2, _, p2, _⟩ := I1.list q2
    exact call_zip_2 p1.isList p2.isList fun g gz gI gO g1 g2 _ gk => wpAny_pyIter_zip gz ⟨_, _, _, _, H1, rfl, I1.kept (t' := s1.toks) gk, turn_zipF (PySem.W.ktu_apart s1.heap.objs.size a b p1.lt p2.lt), ⟨gz, gI, ⟨_, _, gO⟩, g1, g2⟩, five, r⟩
  · obtain ⟨is1, _, p1, _⟩ := I1.tuple q1
    obtain ⟨is2, _, p2, _⟩ := I1.tuple q2
    obtain ⟨o1, h1, _⟩ := id p1
    obtain ⟨o2, h2, _⟩ := id p2
    exact call_zipT (tup_of p1) (tup_of p2) fun g gz gI gO g1 g2 _ gk => wpAny_pyIter_zip gz ⟨_, _, _, _, H1, rfl, I1.kept (t' := s1.toks) gk, turn_zipG (PySem.W.ktu_apart s1.heap.objs.size a b (Heap.lt_size h1) (Heap.lt_size h2)), ⟨gz, gI, ⟨_, _, gO⟩, g1, g2⟩, five, r⟩
/-- the items side by side -/
def zipD (ds es : List Dat) : List Dat := (ds.zip es).map fun p => Dat.tup [p.1, p.2]
def mZip (a : ML) : ML := fun env S => (a env S).bind fun r => match r.1 with
  | [.lst ds, .lst es] => if ds.length ≤ 1000 ∧ es.length ≤ 1000 then some (zipD ds es, r.2) else none
  | [.tup ds, .tup es] => if ds.length ≤ 1000 ∧ es.length ≤ 1000 then some (zipD ds es, r.2) else none
  | _ => none
theorem zipD_at {ds es : List Dat} {i : Nat} {d : Dat} (h : (zipD ds es)[i]? = some d) : ∃ x y, ds[i]? = some x ∧ es[i]? = some y ∧ d = .tup [x, y] := by
  unfold zipD at h
  rw [List.getElem?_map, Option.map_eq_some_iff] at h
  obtain ⟨p, hp, rfl⟩ := h
  obtain ⟨h1, h2⟩ := List.getElem?_zip_eq_some.mp hp
  exact ⟨_, _, h1, h2, rfl⟩
theorem zipD_len (ds es : List Dat) : (zipD ds es).length = min ds.length es.length := by unfold zipD; rw [List.length_map, List.length_zip]
theorem rep_two {O : Addr → Prop} {ps : Addr} {H : Hp} {T : Addr} {x y : V} {d e : Dat} {ob : Obj} (rx : Rep O ps H x d) (ry : Rep O ps H y e) (n : H T = none) (od : ob.dict = none) (dom : ∀ a, O a → H a ≠ none) :
    Same H (upd H T (.frz ob (.tup [x, y]))) ∧ Rep O ps (upd H T (.frz ob (.tup [x, y]))) (.ref T) (.tup [d, e]) :=
  ⟨fun b o hb => by
    rw [upd_ne (fun q => by rw [q, n] at hb; cases hb)]
    exact hb, .tup (.new od) (fun q => dom T q n) (by show 2 ≤ sizeLine; decide) (repL_new (.cons rx (.cons ry .nil)) n)⟩
theorem it_zipF {K : PySem.W.Frag} {ps a b : Addr} {Rl : (Addr → Prop) → Hp → Prop} {vs ws : List V} {ds es : List Dat} (lz : ds.length ≤ 1000)
    (hl : ∀ O' H', Rl O' H' → (H' a = some (.lst vs) ∧ RepL O' ps H' vs ds) ∧ (H' b = some (.lst ws) ∧ RepL O' ps H' ws es) ∧ ∀ c, O' c → H' c ≠ none) : ItOk ps Rl (ItzF K a b) (zipD ds es) where
  go := fun O' H' i h hi => by
    obtain ⟨⟨h1, h2⟩, ⟨h3, h4⟩, _⟩ := hl O' H' h
    rw [zipD_len] at hi
    have i1 : i < vs.length := by rw [h2.len]; omega
    have i2 : i < ws.length := by rw [h4.len]; omega
    exact ⟨vs, ws, vs[i], ws[i], SqL.of h1, SqL.of h3, List.getElem?_eq_getElem i1, List.getElem?_eq_getElem i2⟩
  yld := fun O' H' i r H'' d h hd hy => by
    obtain ⟨⟨h1, h2⟩, ⟨h3, h4⟩, dom⟩ := hl O' H' h
    obtain ⟨T, x, y, ob, rfl, nT, od, rfl, e1, e2⟩ := hy
    obtain ⟨d1, d2, f1, f2, rfl⟩ := zipD_at hd
    obtain ⟨v, g1, r1⟩ := h2.get f1
    obtain ⟨u, g2, r2⟩ := h4.get f2
    have e1 := e1 vs (SqL.of h1)
    have e2 := e2 ws (SqL.of h3)
    rw [g1] at e1
    rw [g2] at e2
    cases e1
    cases e2
    exact rep_two r1 r2 nT od dom
  stop := fun O' H' h => by
    obtain ⟨⟨h1, h2⟩, ⟨h3, h4⟩, _⟩ := hl O' H' h
    refine ⟨vs, ws, SqL.of h1, SqL.of h3, ?_⟩
    rw [zipD_len, h2.len, h4.len]
    omega
  sz := by
    rw [zipD_len]
    exact Nat.le_trans (Nat.le_trans (Nat.min_le_left _ _) lz) (by decide)
theorem it_zipG {K : PySem.W.Frag} {ps a b : Addr} {Rl : (Addr → Prop) → Hp → Prop} {vs ws : List V} {ds es : List Dat} (lz : ds.length ≤ 1000)
    (hl : ∀ O' H', Rl O' H' → (TupAt H' a vs ∧ RepL O' ps H' vs ds) ∧ (TupAt H' b ws ∧ RepL O' ps H' ws es) ∧ ∀ c, O' c → H' c ≠ none) : ItOk ps Rl (ItzG K a b) (zipD ds es) where
  go := fun O' H' i h hi => by
    obtain ⟨⟨h1, h2⟩, ⟨h3, h4⟩, _⟩ := hl O' H' h
    rw [zipD_len] at hi
    have i1 : i < vs.length := by rw [h2.len]; omega
    have i2 : i < ws.length := by rw [h4.len]; omega
    exact ⟨vs, ws, vs[i], ws[i], h1.sq, h3.sq, List.getElem?_eq_getElem i1, List.getElem?_eq_getElem i2⟩
  yld := fun O' H' i r H'' d h hd hy => by
    obtain ⟨⟨h1, h2⟩, ⟨h3, h4⟩, dom⟩ := hl O' H' h
    obtain ⟨T, x, y, ob, rfl, nT, od, rfl, e1, e2⟩ := hy
    obtain ⟨d1, d2, f1, f2, rfl⟩ := zipD_at hd
    obtain ⟨v, g1, r1⟩ := h2.get f1
    obtain ⟨u, g2, r2⟩ := h4.get f2
    have e1 := e1 vs h1.sq
    have e2 := e2 ws h3.sq
    rw [g1] at e1
    rw [g2] at e2
    cases e1
    cases e2
    exact rep_two r1 r2 nT od dom
  stop := fun O' H' h => by
    obtain ⟨⟨h1, h2⟩, ⟨h3, h4⟩, _⟩ := hl O' H' h
    refine ⟨vs, ws, h1.sq, h3.sq, ?_⟩
    rw [zipD_len, h2.len, h4.len]
    omega
  sz := by
    rw [zipD_len]
    exact Nat.le_trans (Nat.le_trans (Nat.min_le_left _ _) lz) (by decide)
theorem zip_sem {K : PySem.W.Frag} {ta : TA} {m : ML} (h : SA ta m) {O : Addr → Prop} {P : Fix} {σ : L2.St} {H : Hp} {env : DEnv} {S : Sm} {r : List Dat × Sm} {R : It → Hp → Prop} (I : EI O P σ H env S) (e : mZip m env S = some r)
    {Rl : Hp → (Addr → Prop) → Hp → Prop} (hR : ∀ H1 O' H', Rl H1 O' H' → Tr O H1 O' H' ∧ ∀ c, O' c → H' c ≠ none) (q : ∀ J H1, Fr P H H1 → StrmAt P H1 r.2 → ItOk P.ps (Rl H1) J r.1 → R J H1) : iZipF K ta σ H R := by
  unfold mZip at e
  cases ea : m env S with
  | none => rw [ea] at e; cases e
  | some x =>
    rw [ea] at e
    simp only [Option.bind_some] at e
    refine h O P σ H env S x _ I ea fun vs H1 f s rs => ?_
    split at e
    · rename_i ds es hd
      split at e
      · rename_i hz
        cases e
        rw [hd] at rs
        cases rs with
        | cons r1 rr =>
          cases rr with
          | cons r2 rr =>
            cases rr
            cases r1 with
            | @lst a us _ ha na _ la =>
            cases r2 with
            | @lst b ws _ hb nb _ lb =>
            refine ⟨a, b, us, ws, rfl, .inl ⟨SqL.of ha, SqL.of hb, q _ _ f s (it_zipF (vs := us) (ws := ws) hz.1 fun O' H' hh => ?_)⟩⟩
            obtain ⟨t, dom⟩ := hR H1 O' H' hh
            exact ⟨⟨(t.sq a (.lst us) trivial na ha).2, la.tr t⟩, ⟨(t.sq b (.lst ws) trivial nb hb).2, lb.tr t⟩, dom⟩
      · cases e
    · rename_i ds es hd
      split at e
      · rename_i hz
        cases e
        rw [hd] at rs
        cases rs with
        | cons r1 rr =>
          cases rr with
          | cons r2 rr =>
            cases rr
            cases r1 with
            | @tup a us _ ha na _ la =>
            cases r2 with
            | @tup b ws _ hb nb _ lb =>
            refine ⟨a, b, us, ws, rfl, .inr ⟨ha.sq, hb.sq, q _ _ f s (it_zipG (vs := us) (ws := ws) hz.1 fun O' H' hh => ?_)⟩⟩
            obtain ⟨t, dom⟩ := hR H1 O' H' hh
            exact ⟨⟨(t.tup ha na).2, la.tr t⟩, ⟨(t.tup hb nb).2, lb.tr t⟩, dom⟩
      · cases e
    · cases e
section
variable {X : Cx} {e e2 : Expr} {ta : TA} {m : ML} {p pos tpos : Pos} {elts : List Expr} {kk : Nat}
theorem pi_zip (hg : Gl X "zip") (hm : X.mg "zip" = none) (ha : PDA X [e, e2] ta m)
    (hs : starEach [e, e2] X.env = (false, eval e X.env) :: starEach [e2] X.env := by rfl) (hpl : (backTo pos (starEach [e2] X.env)).any (·.1) = false := by rfl) :
    PDI X (.Tuple elts kk tpos) (.Call (.Name "zip" p) [e, e2] [] pos) (iZipF X.K ta) (mZip m) :=
  ⟨pi_zipF hg hm ha.pa hs hpl, fun O P σ H env S r R I e q => zip_sem ha.sem I e (Rl := fun H1 => Lt1 O P H1) (fun H1 O' H' h => ⟨h.1, h.2.2⟩) q⟩
theorem pf_zip (hg : Gl X "zip") (hm : X.mg "zip" = none) (ha : PDA X [e, e2] ta m)
    (hs : starEach [e, e2] X.env = (false, eval e X.env) :: starEach [e2] X.env := by rfl) (hpl : (backTo pos (starEach [e2] X.env)).any (·.1) = false := by rfl) :
    PDF X (.Tuple elts kk tpos) (.Call (.Name "zip" p) [e, e2] [] pos) (iZipF X.K ta) (mZip m) :=
  ⟨pi_zipF hg hm ha.pa hs hpl, fun O P σ H env S r R I e q => zip_sem ha.sem I e (Rl := fun H1 => Lt2 O H1) (fun H1 O' H' h => ⟨h.1, h.2⟩) q⟩
end
theorem w_zip {a : ML} {env : DEnv} {S : Sm} {QL : List Dat → Sm → Prop} : Ok (mZip a env S) QL ↔ Ok (a env S) fun r S1 => (∃ ds es, (r = [.lst ds, .lst es] ∨ r = [.tup ds, .tup es]) ∧ (ds.length ≤ 1000 ∧ es.length ≤ 1000) ∧ QL (zipD ds es) S1) := by
  unfold mZip
  simp only [ok_bind]
  constructor <;> refine fun h => h.mono fun r S1 q => ?_
  · split at q
    · split at q
      · exact ⟨_, _, .inl rfl, by assumption, ok_some.mp q⟩
      · exact (ok_none.mp q).elim
    · split at q
      · exact ⟨_, _, .inr rfl, by assumption, ok_some.mp q⟩
      · exact (ok_none.mp q).elim
    · exact (ok_none.mp q).elim
  · obtain ⟨ds, es, rfl | rfl, hz, q⟩ := q
    · simp only [if_pos hz]
      exact ok_some.mpr q
    · simp only [if_pos hz]
      exact ok_some.mpr q
/-! ### join within a comprehension -/
def rJoinK (K : PySem.W.Frag) : V → List V → Hp → VK → Prop := fun x xs H Q => ∃ (a : Str) (p : Addr) (ys : List Str), x = .str a ∧ xs = [.ref p] ∧ (SqL K H p (ys.map V.str) ∨ SqT K H p (ys.map V.str)) ∧
    (ys.map (·.length)).sum + ys.length * a.length ≤ 16777216 ∧ Q (.str (Txt.join a ys)) H
theorem mt_joinK {X : Cx} {K : PySem.W.Frag} (hK : X.K = K := by rfl) : MtR X "str.join" (rJoinK K) := by
  subst hK
  exact mt_join
theorem ms_joinK {K : PySem.W.Frag} : MS (rJoinK K) gJoin := ms_join
end PD

namespace PD
open PySem PySem.Spec PySem.Calls PyProof.Rows L2
/-! ### sorted(a tuple of pairs) -/
/-- the heap with a list of the items -/
abbrev gath (hp : Heap) (xs : List Value) : Heap := (hp.push (seqObj "list" #[] 0)).update hp.objs.size (Obj.mapSeq (· ++ xs.toArray))
section
variable {prog : Program} {w : World} {A : Around} {E : Value → Shared → Prop} {s : Shared}
theorem gather_tup {p : Addr} {xs : List Value} {Q : List Value → Shared → Prop} (hp : Heap.IsTuple s.heap p xs.toArray) (few : xs.length ≤ 1000) (fin : Q xs { s with heap := gath s.heap xs }) :
    wpAny (model prog w) A (collect (.ref p)) Q E s := by
  have big : (1000 : Nat) ≤ sizeLine := by decide
  obtain ⟨ob, e1, e2, m, e3⟩ := id hp
  have e4 : (s.heap.push (seqObj "list" #[] 0)).get? p = some ob := Heap.get?_push_of_some _ e1
  have e5 : (s.heap.push (seqObj "list" #[] 0)).get? s.heap.objs.size = some (seqObj "list" #[] 0) := Heap.get?_push_size _ rfl
  have last : wpAny (model prog w) A (do
      let o ← load s.heap.objs.size
      match o.data with
      | .seq zs _ => pure zs.toList
      | _ => unsupported "internal:collect") Q E { s with heap := gath s.heap xs } := by
    refine wpAny_bind (wpAny_load (get?_update_seq e5 _) ?_)
    have ex : ((#[] : Array Value) ++ xs.toArray).toList = xs := by simp
    show wpAny _ _ (pure ((#[] : Array Value) ++ xs.toArray).toList) Q E _
    rw [ex]
    exact wpAny_pure fin
  unfold collect
  refine wpAny_bind (wpAny_runValue (codeAny_builtin entry_proto_collect' ?_))
  show wpAny _ _ (do again (.builtin "list.__iadd__" ⟨[← newList [], .ref p], []⟩)) _ _ s
  refine wpAny_bind (wpAny_newList (wpAny_pure ⟨Code.quiet_builtin _ (by decide +kernel), codeAny_builtin entry_list_iadd' ?_⟩))
  show wpAny _ _ (Builtin.List.listExtendWith (.ref s.heap.objs.size) (.ref p) (.ref s.heap.objs.size)) _ _ { s with heap := s.heap.push (seqObj "list" #[] 0) }
  unfold Builtin.List.listExtendWith
  refine wpAny_bind (wpAny_typeOf (T := "tuple") ⟨ob, e4, e2⟩ ?_)
  have et : (Value.type "tuple" == Value.type "tuple") = true := by rfl
  rw [if_pos (by rw [et]; simp)]
  refine wpAny_bind (listItems_at e4 e3 ?_)
  refine wpAny_bind (listItems_at e5 rfl ?_)
  rw [if_neg (by simp)]
  refine wpAny_bind (listUpdate_at e5 rfl ?_ (Nat.zero_le _) (by show (#[] ++ xs.toArray).size ≤ sizeLine + 1; simp only [Array.size_append, List.size_toArray, List.length_nil]; omega))
  exact wpAny_pure last
theorem sorted_tup {κ : PyProof.Rows.KeyKind} {p : Addr} {xs : List Value} {Q : Value → Shared → Prop} (hp : Heap.IsTuple s.heap p xs.toArray) (few : xs.length ≤ 1000)
    (S : PySem.W.SortsAt prog w A.in1.in1 { s with heap := PySem.W.sortingHeap (PySem.W.copyHeap s.heap xs) (s.heap.objs.size + 1) xs } κ xs)
    (fin : Q (.ref (s.heap.objs.size + 1)) { s with heap := sortedAll s.heap xs (PySem.W.sortVals κ false xs xs).toArray }) : wpAny (model prog w) A (call (.builtin "sorted") [.ref p]) Q E s := by
  have big : (1000 : Nat) ≤ sizeLine := by decide
  have fits := Nat.le_trans few big
  refine call_function_entry_kw kind_sorted plain_sorted entry_sorted (args_sorted1 _) ?_
  unfold Builtin.«sorted»
  refine wpAny_bind (m := checkCount "sorted" 1 1 _) (wpAny_pure ?_)
  refine wpAny_bind (gather_tup hp few ?_)
  refine wpAny_bind (wpAny_newList ?_ fits)
  have z : (gath s.heap xs).objs.size = s.heap.objs.size + 1 := by rw [Heap.size_update, size_push']
  show wpAny _ _ _ _ _ { s with heap := PySem.W.copyHeap s.heap xs }
  rw [z]
  refine wpAny_bind (wpAny_holding (wpAny_call_entry_kw slot_list_sort ⟨_, PySem.W.copyHeap_at s.heap xs, rfl⟩ entry_list_sort ?_ (args_list_sort _)))
  show wpAny (model prog w) A.in1.in1 (Builtin.«list.sort» ⟨[.ref (s.heap.objs.size + 1)], []⟩) _ _ _
  exact PySem.W.list_sort_vals (s := { s with heap := PySem.W.copyHeap s.heap xs }) (PySem.W.copyHeap_at s.heap xs) S fits ⟨_, rfl, wpAny_pure ⟨_, rfl, fin⟩⟩
theorem sorted_tup_data {β : Type} {vs : List Value} {bs : List β} {enc : β → PyData} {R : Value → β → Prop} {p : Addr} {Q : Value → Shared → Prop} (hp : Heap.IsTuple s.heap p vs.toArray) (e : PySem.W.EachIs R vs bs) (er : PySem.W.EachIs (fun v b => ∃ as, Reads s.heap v (enc b) as) vs bs)
    (hal : PySem.W.AllAlike (bs.map enc)) (hk : PySem.W.Sortable (bs.map enc)) (few : bs.length ≤ 1000) (hu : ∀ b, b ∈ bs → A.units + 2 + (enc b).depth < cLine)
    (fin : ∀ out, out.length = bs.length → PySem.W.EachIs R out (bs.mergeSort (PySem.W.dataLe false enc)) → Q (.ref (s.heap.objs.size + 1)) { s with heap := sortedAll s.heap vs (List.toArray out) }) :
    wpAny (model prog w) A (call (.builtin "sorted") [.ref p]) Q E s := by
  have er2 := er.mono (R' := fun v b => ∃ as, Reads (PySem.W.sortingHeap (PySem.W.copyHeap s.heap vs) (s.heap.objs.size + 1) vs) v (enc b) as) fun v b ⟨as, r⟩ => ⟨as, PyProof.Rows.Reads.keeps (fun _ _ => PySem.W.sorting_copy_old) r⟩
  refine sorted_tup hp (by rw [e.length]; exact few) (PySem.W.SortsAt.data (s := { s with heap := PySem.W.sortingHeap (PySem.W.copyHeap s.heap vs) (s.heap.objs.size + 1) vs }) (PySem.W.each_map (R := fun v d => ∃ as, Reads (PySem.W.sortingHeap (PySem.W.copyHeap s.heap vs) (s.heap.objs.size + 1) vs) v d as) enc er2) hal hk (PySem.W.bound_map hu)) ?_
  exact fin _ (by rw [PySem.W.sortVals_length false rfl]; exact e.length) (PySem.W.sortVals_data false e er2 hal)
end
def rSortT (K : PySem.W.Frag) : List V → Hp → VK → Prop := fun us H Q => ∃ (p : Addr) (ws : List V) (bs : List (Str × Int)) (T : V → Str × Int → Prop), us = [.ref p] ∧ SqT K H p ws ∧ Paired T ws bs ∧ (∀ x b, T x b → Dp K H x (pairP b)) ∧ bs.length ≤ 1000 ∧
  ∀ zs c, Paired T zs (sortP bs) → H c = none → Q (.ref c) (upd H c (.lst zs))
theorem cr_sortT {X : Cx} {k : Nat} (hr : Room k X.A) {K : PySem.W.Frag} (hK : X.K = K := by rfl) : CallR X (.builtin "sorted") (rSortT K) := by
  subst hK
  intro pins s σ H vs us Q I r q
  obtain ⟨p, ws, bs, T, rfl, hs, pT, hT, few, q⟩ := q
  obtain ⟨its, rv, pt, _⟩ := I.tuple hs
  rw [Vals.ref1 r]
  have e0 := pairs_each pT rv
  have al : ∀ b c : Str × Int, PySem.W.alike (pairP b) (pairP c) = true := fun b c => by simp [pairP, PySem.W.alike, PySem.W.alikeAll]
  have dp : ∀ b : Str × Int, (pairP b).depth = 1 := fun b => by simp [pairP, PyData.depth, PyData.depthAll]
  refine sorted_tup_data (enc := pairP) (tup_of pt) e0 (e0.mono fun v b ⟨x, r1, t1⟩ => Dp.reads I _ x v (hT x b t1) r1) (PySem.W.AllAlike.of al) (PySem.W.Sortable.tuples fun b => ⟨_, _, rfl⟩) few (fun b _ => by rw [dp]; have := hr.un; omega) fun out ho eo => ?_
  obtain ⟨zs, v1, v2⟩ := each_pairs eo
  obtain ⟨ep, he⟩ := sortedAll_at s.heap its out.toArray
  have lz : zs.length ≤ sizeLine := by rw [v1.length, ho]; exact Nat.le_trans few (by decide)
  exact ⟨.ref (s.heap.objs.size + 1), upd H (s.heap.objs.size + 1) (.lst zs), I.laid (t' := s.toks) (fun _ _ => sortedAll_old) (Nat.le_succ _) ⟨lz, out, ep, v1, he⟩, rfl, q zs _ v2 (I.hok.fresh (Nat.le_succ _))⟩
def gSortT : List Dat → Option Dat
  | [.tup ds] => match toPairs ds with
    | some bs => if bs.length ≤ 1000 then some (.lst ((sortP bs).map pairD)) else none
    | none => none
  | _ => none
theorem cn_sortT {K : PySem.W.Frag} : CN (rSortT K) gSortT := by
  intro O P H S vs ds z Q I rs eg q
  unfold gSortT at eg
  split at eg
  · obtain ⟨v, rfl, r⟩ := rs.one
    obtain ⟨a, ws, rfl, ha, _, l, _⟩ := r.tup
    split at eg
    · rename_i bs en
      split at eg
      · rename_i few
        cases eg
        refine ⟨a, ws, bs, fun x b => Rep O P.ps H x (pairD b), rfl, ha.sq, l.pairs en, fun x b h => h.dp rfl, few, fun zs p pz n => ?_⟩
        refine q p _ n (.new n) (I.sm.new n) (own_new n ?_ (repL_pairs pz))
        have hl : zs.length = (sortP bs).length := Paired.length pz
        rw [hl, show (sortP bs).length = bs.length from (List.mergeSort_perm _ _).length_eq]
        exact le1000 few
      · cases eg
    · cases eg
  · cases eg
theorem gSortT_pairs {bs : List (Str × Int)} {Q : Dat → Prop} : Pu (gSortT [.tup (bs.map pairD)]) Q ↔ bs.length ≤ 1000 ∧ Q (.lst ((sortP bs).map pairD)) := by
  have e : gSortT [.tup (bs.map pairD)] = if bs.length ≤ 1000 then some (.lst ((sortP bs).map pairD)) else none := by
    show (match toPairs (bs.map pairD) with | some bs => if bs.length ≤ 1000 then some (Dat.lst ((sortP bs).map pairD)) else none | none => none) = _
    rw [toPairs_map]
  rw [e]
  exact pu_iteP
end PD

namespace PD
open PySem PySem.Spec PyProof.Rows L2
/-! ### {"a": x, ..}: a display with written texts as keys -/
abbrev pairsV (ks : List Str) (vs : List V) : List (V × V) := (ks.map V.str).zip vs
structure PDPs (X : Cx) (pos : Pos) (keys : List (Option Expr)) (values : List Expr) (trs : List (TE × TE)) (ks : List Str) (m : ML) : Prop where
  pps : PPs X pos keys values trs
  len : ∀ env S r, m env S = some r → r.1.length = ks.length
  sem : ∀ (O : Addr → Prop) (P : Fix) (σ : L2.St) (H : Hp) (env : DEnv) (S : Sm) (r : List Dat × Sm) (Q : List (V × V) → Hp → Prop), EI O P σ H env S → m env S = some r →
    (∀ vs H', Fr P H H' → StrmAt P H' r.2 → RepL O P.ps H' vs r.1 → Q (pairsV ks vs) H') → tPairs trs σ H Q
section
variable {X : Cx} {pos kp : Pos} {v : Expr} {ks : List (Option Expr)} {vs : List Expr} {trs : List (TE × TE)} {names : List Str} {tv : TE} {a : M} {m : ML} {k : Str}
theorem pdp_nil : PDPs X pos [] [] [] [] mNil := ⟨pps_nil, (fun env S r e => by cases e; rfl), fun O P σ H env S r Q I e q => by
  cases e
  exact q [] H .refl I.sm .nil⟩
theorem pdp_cons {j : Nat} (hv : PDE X v tv a) (hr : PDPs X pos ks vs trs names m) : PDPs X pos (some (.Constant (.str k) j kp) :: ks) (v :: vs) ((tC (.str k), tv) :: trs) (k :: names) (mCons a m) where
  pps := pps_cons pe_str hv.pe hr.pps
  len := fun env S r e => by
    unfold mCons at e
    cases ea : a env S with
    | none => rw [ea] at e; cases e
    | some x =>
      rw [ea] at e
      simp only [Option.bind_some] at e
      cases eb : m env x.2 with
      | none => rw [eb] at e; cases e
      | some y =>
        rw [eb] at e
        cases e
        exact congrArg (· + 1) (hr.len _ _ _ eb)
  sem := fun O P σ H env S r Q I e q => by
    unfold mCons at e
    cases ea : a env S with
    | none => rw [ea] at e; cases e
    | some x =>
      rw [ea] at e
      simp only [Option.bind_some] at e
      cases eb : m env x.2 with
      | none => rw [eb] at e; cases e
      | some y =>
        rw [eb] at e
        cases e
        show tv σ H fun z H2 => tPairs trs σ H2 fun ps H3 => Q ((V.str k, z) :: ps) H3
        exact hv.sem O P σ H env S x _ I ea fun z H1 f1 s1 r1 => hr.sem O P σ H1 env x.2 y _ (I.fr f1 s1) eb fun zs H2 f2 s2 rs => q (z :: zs) H2 (f1.trans f2) s2 (.cons (r1.tr (f2.tr I.ops)) rs)
def mDisp (names : List Str) (m : ML) : M := fun env S => (m env S).map fun r => (.dk ((names.map Sum.inr).zip r.1), r.2)
theorem zipK {O : Addr → Prop} {ps : Addr} {H : Hp} : ∀ {names : List Str} {vs : List V} {ds : List Dat}, RepL O ps H vs ds → names.length = ds.length → RepK O ps H ((names.map (Sum.inr : Str → Key)).zip vs) ((names.map (Sum.inr : Str → Key)).zip ds)
  | [], _, _, _, _ => .nil
  | _ :: names, _, _, .cons r l, h => .cons r (zipK (names := names) l (by simpa using h))
theorem pairs_kv : ∀ (names : List Str) (vs : List V), pairsV names vs = ((names.map (Sum.inr : Str → Key)).zip vs).map fun kv => (kV kv.1, kv.2)
  | [], _ => rfl
  | _ :: _, [] => rfl
  | k :: names, v :: vs => congrArg ((V.str k, v) :: ·) (pairs_kv names vs)
theorem sn_disp {trs : List (TE × TE)} (h : PDPs X pos ks vs trs names m) (h15 : names.length ≤ 15) (nd : names.Nodup) : SN (tDisp trs) (mDisp names m) := by
  intro O P σ H env S r Q I e q p np
  unfold mDisp at e
  cases em : m env S with
  | none => rw [em] at e; cases e
  | some y =>
    rw [em] at e
    cases e
    have pps : p ≠ P.ps := ne_ps I.sm np
    have qnp : P.qs ≠ p := ne_of_none I.sm.2 np
    have grow : Tr O H (fun c => O c ∨ c = p) (upd H p (.dK [])) := .of fun c u nc hc => ⟨fun z => z.elim nc fun e => absurd (e ▸ hc) (by rw [np]; simp), (upd_ne (ne_of_none hc np)).trans hc⟩
    have I1 : EI (fun c => O c ∨ c = p) P σ (upd H p (.dK [])) env S :=
      ⟨.inl I.ops, fun z => z.elim I.nq qnp, fun c z => by
        by_cases ec : c = p
        · rw [ec, upd_same]; simp
        · rw [upd_ne ec]; exact z.elim (I.dom c) fun k => (ec k).elim, I.sm.new np, I.len,
        fun i d h => let ⟨v, h1, h2⟩ := I.fz i d h; ⟨v, h1, h2.tr grow⟩, fun i d h => let ⟨c, h1, h2, h3, h4⟩ := I.ow i d h; ⟨c, h1, .inl h2, h3, h4.mono grow fun o hc => (upd_ne (ne_of_none hc np)).trans hc⟩⟩
    refine h.sem _ P σ _ env S y _ I1 em fun zs H2 f s rs => ?_
    have e2 : H2 p = some (.dK []) := f p _ pps upd_same
    have ln := h.len env S y em
    have lz : zs.length = names.length := by rw [rs.len, ln]
    refine ⟨e2, (names.map Sum.inr).zip zs, pairs_kv names zs, by rw [List.length_zip, List.length_map]; omega, ?_⟩
    have mk : ((names.map (Sum.inr : Str → Key)).zip zs).map (·.1) = names.map Sum.inr := List.map_fst_zip (by rw [List.length_map]; omega)
    have mg : mergeK [] ((names.map (Sum.inr : Str → Key)).zip zs) = (names.map (Sum.inr : Str → Key)).zip zs := by
      rw [mergeK_new _ [] (by
        rw [List.nil_append, mk]
        exact List.pairwise_map.mpr (nd.imp fun {a b} n e => n (by cases e; rfl)))]
      rfl
    rw [mg]
    refine q p _ np pps (fun c o nc hc => ?_) ⟨by rw [upd_ne pps.symm]; exact s.1, by rw [upd_ne qnp]; exact s.2⟩ ⟨_, upd_same, ?_, ?_⟩
    · have ec : c ≠ p := ne_of_none hc np
      rw [upd_ne ec]
      exact f c o nc ((upd_ne ec).trans hc)
    · rw [List.length_zip, List.length_map]
      exact Nat.le_trans (Nat.le_trans (Nat.min_le_left _ _) h15) (by decide)
    · exact (zipK rs ln.symm).tr (.of fun c u nc hc => ⟨nc, (upd_ne (fun z => nc (.inr z))).trans hc⟩)
theorem pn_disp (h : PDPs X pos ks vs trs names m) (hall : ks.all (·.isSome) = true := by rfl) (hl : ks.length = vs.length := by rfl) (h0 : ks ≠ [] := by simp) (h15 : ks.length ≤ 15 := by decide) (n15 : names.length ≤ 15 := by decide) (nd : names.Nodup := by decide +kernel) :
    PDN X (.Dict ks vs pos) (tDisp trs) (mDisp names m) := ⟨pe_disp h.pps hall hl h0 h15, sn_disp h n15 nd⟩
end
theorem w_disp {names : List Str} {m : ML} {env : DEnv} {S : Sm} {Q : Dat → Sm → Prop} : Ok (mDisp names m env S) Q ↔ Ok (m env S) fun ds S1 => Q (.dk ((names.map Sum.inr).zip ds)) S1 := by
  unfold mDisp
  simp only [ok_mapS]
end PD

namespace PD
open PySem PySem.Spec PyProof.Rows L2
/-! ### in a module's tuple of texts -/
def GTup (K : PySem.W.Frag) (mg : Str → Option Value) (x : Str) (xs : List Str) : Prop := mg x = some (.ref (He.ga K x)) ∧ ∀ H, SqT K H (He.ga K x) (xs.map V.str)
def gInG (neg : Bool) (xs : List Str) (d : Dat) : Option Dat := if d.flat = true then some (.bl (xor neg ((xs.map Dat.str).any fun y => eqF y d))) else none
def mInG (neg : Bool) (xs : List Str) (a : M) : M := fun env S => (a env S).bind fun x => (gInG neg xs x.1).map fun z => (z, x.2)
theorem strs_flat (xs : List Str) : (xs.map V.str).all flatV = true := by
  rw [List.all_eq_true]
  intro v hv
  obtain ⟨x, _, rfl⟩ := List.mem_map.mp hv
  rfl
theorem strs_in {O : Addr → Prop} {ps : Addr} {H : Hp} {v : V} {d : Dat} (r : Rep O ps H v d) (h : d.flat = true) (xs : List Str) : inV v (xs.map V.str) = (xs.map Dat.str).any fun y => PD.eqF y d := by
  unfold inV
  rw [List.any_map, List.any_map]
  congr 1
  funext x
  cases r <;> first | rfl | exact Bool.noConfusion (show false = true from h)
theorem se_inG {K : PySem.W.Frag} {a : Addr} {xs : List Str} {ta : TE} {ma : M} (neg : Bool) (hq : ∀ H, SqT K H a (xs.map V.str)) (ha : SB ta ma) : SE (tOp (rIn K neg) ta (tC (.ref a))) (mInG neg xs ma) := by
  intro O P σ H env S w Q I e q
  unfold mInG at e
  cases ea : ma env S with
  | none => rw [ea] at e; cases e
  | some x =>
    rw [ea] at e
    simp only [Option.bind_some] at e
    unfold gInG at e
    by_cases h : x.1.flat = true
    · rw [if_pos h] at e
      cases e
      refine ha O P σ H env S x _ I ea fun v H1 f1 s1 r1 => ?_
      have rx := r1.rep_flat h
      have fin : ∀ b : Bool, (if neg = true then !b else b) = xor neg b := fun b => by cases neg <;> cases b <;> rfl
      refine ⟨a, xs.map V.str, rfl, .inr (hq H1), rx.flat h, strs_flat xs, ?_⟩
      rw [fin, strs_in rx h]
      exact q _ H1 f1 s1 (.bl _)
    · rw [if_neg h] at e
      cases e
section
variable {X : Cx} {pos p2 : Pos} {a : Expr} {ta : TE} {ma : M} {x : Str} {xs : List Str}
theorem pe_gtup {b : Addr} (hm : X.mg x = some (.ref b)) (hg : Gl X x) (hd : (x == ("__debug__" : Str)) = false) : PE X (.Name x p2) (tC (.ref b)) := pe_glob hg hm rfl hd
theorem pd_inG {K : PySem.W.Frag} (hK : X.K = K) (h : GTup K X.mg x xs) (ha : PDB X a ta ma) (hg : Gl X x := by rfl) (hd : (x == ("__debug__" : Str)) = false := by decide) :
    PDE X (.Compare a [.In] [.Name x p2] pos) (tOp (rIn K false) ta (tC (.ref (He.ga K x)))) (mInG false xs ma) := by
  subst hK
  exact ⟨pe_cmpR op_in_seq ha.pe (pe_gtup h.1 hg hd) rfl, se_inG false h.2 ha.sem⟩
theorem pd_notinG {K : PySem.W.Frag} (hK : X.K = K) (h : GTup K X.mg x xs) (ha : PDB X a ta ma) (hg : Gl X x := by rfl) (hd : (x == ("__debug__" : Str)) = false := by decide) :
    PDE X (.Compare a [.NotIn] [.Name x p2] pos) (tOp (rIn K true) ta (tC (.ref (He.ga K x)))) (mInG true xs ma) := by
  subst hK
  exact ⟨pe_cmpR op_notIn_seq ha.pe (pe_gtup h.1 hg hd) rfl, se_inG true h.2 ha.sem⟩
theorem pt_inG {K : PySem.W.Frag} (hK : X.K = K) (h : GTup K X.mg x xs) (ha : PDB X a ta ma) (hg : Gl X x := by rfl) (hd : (x == ("__debug__" : Str)) = false := by decide) :
    PDT X (.Compare a [.In] [.Name x p2] pos) (tTest (tOp (rIn K false) ta (tC (.ref (He.ga K x))))) (mTest (mInG false xs ma)) := by
  subst hK
  exact ⟨pt_cmpR op_in_seq ha.pe (pe_gtup h.1 hg hd) rfl, st_test (se_inG false h.2 ha.sem)⟩
theorem pt_notinG {K : PySem.W.Frag} (hK : X.K = K) (h : GTup K X.mg x xs) (ha : PDB X a ta ma) (hg : Gl X x := by rfl) (hd : (x == ("__debug__" : Str)) = false := by decide) :
    PDT X (.Compare a [.NotIn] [.Name x p2] pos) (tTest (tOp (rIn K true) ta (tC (.ref (He.ga K x))))) (mTest (mInG true xs ma)) := by
  subst hK
  exact ⟨pt_cmpR op_notIn_seq ha.pe (pe_gtup h.1 hg hd) rfl, st_test (se_inG true h.2 ha.sem)⟩
end
theorem w_inG {neg : Bool} {xs : List Str} {a : M} {env : DEnv} {S : Sm} {Q : Dat → Sm → Prop} : Ok (mInG neg xs a env S) Q ↔ Ok (a env S) fun d S1 => Pu (gInG neg xs d) fun z => Q z S1 := by
  unfold mInG
  simp only [ok_bind, ok_mapP]
theorem gInG_str {neg : Bool} {xs : List Str} {y : Str} {Q : Dat → Prop} : Pu (gInG neg xs (.str y)) Q ↔ Q (.bl (xor neg (decide (y ∈ xs)))) := by
  rw [show gInG neg xs (.str y) = some (.bl (xor neg ((xs.map Dat.str).any fun z => eqF z (.str y)))) from rfl, pu_some]
  have : ((xs.map Dat.str).any fun z => eqF z (.str y)) = decide (y ∈ xs) := by
    rw [List.any_map]
    induction xs with
    | nil => rfl
    | cons x xs ih =>
      rw [List.any_cons, ih]
      show (x == y || decide (y ∈ xs)) = _
      by_cases e : x = y
      · subst e; simp
      · have e2 : (x == y) = false := beq_eq_false_iff_ne.mpr e
        rw [e2, Bool.false_or]
        by_cases h : y ∈ xs <;> simp [h, Ne.symm e]
  rw [this]
end PD
/-! ### the head's facts with tables of texts -/
namespace PDH
open PySem PySem.Spec PyProof.Rows L2
abbrev AlT : Type := He.Al × Bool
def tabs (ts : List (Str × List Str)) (K : PySem.W.Frag) : Bool := ts.all fun t => (He.Fa.glo t.1).ok K && He.tupB K t.1 (t.2.map He.Dv.str)
def obsT (n : Nat) (fa : List He.Fa) (fn : List He.FnD) (ts : List (Str × List Str)) (g : Addr → Option Obj) : AlT := (He.obsE fa fn (He.frG g (He.asG g n)), tabs ts (He.frG g (He.asG g n)))
def hookT (n : Nat) (fa : List He.Fa) (fn : List He.FnD) (ts : List (Str × List Str)) : PySem.W.Hook where
  α := AlT
  obs := fun s => obsT n fa fn ts s.heap.get?
  val := fun _ => (He.valE fn, true)
  says := fun _ h => ∃ K : PySem.W.Frag, K.In h ∧ He.SaysE fa fn K ∧ tabs ts K = true
  of := fun _ _ e => ⟨_, He.frG_in, congrArg Prod.fst e, congrArg Prod.snd e⟩
  keeps := fun _ _ _ ⟨K, hK, c⟩ k => ⟨K, PySem.W.Frag.In.keeps hK k, c⟩
theorem obsT_eq {n : Nat} {fa : List He.Fa} {fn : List He.FnD} {ts : List (Str × List Str)} {g : Addr → Option Obj} {s : Shared} (h : ∀ a, g a = s.heap.get? a) : obsT n fa fn ts g = (hookT n fa fn ts).obs s := by
  have e : g = s.heap.get? := funext h
  rw [e] <;> rfl
theorem tab_ok {ts : List (Str × List Str)} {K : PySem.W.Frag} {h : Heap} {mg : Str → Option Value} (X : K.In h) (G : h.Ns mainGlobals mg) (c : tabs ts K = true) (i : Nat) {x : Str} {xs : List Str} (e : ts[i]? = some (x, xs) := by rfl) : PD.GTup K mg x xs := by
  obtain ⟨c1, c2⟩ := He.ba (List.all_eq_true.mp c _ (List.mem_of_getElem? e))
  refine ⟨He.glo_ok X G c1, fun H => ?_⟩
  have := He.tupB_ok c2 H
  rwa [List.map_map] at this
end PDH

namespace PD
open PySem PySem.Spec PyProof.Rows L2
/-! ### enumerate(list) -/
/-- the tuple at a, each item in a new pair that stays -/
def ItFL (K : PySem.W.Frag) (a : Addr) : It where
  go := fun i H => ∃ (xs : List V) (x : V), SqL K H a xs ∧ xs[i]? = some x
  yld := fun i H v H' => ∃ (T : Addr) (x : V) (ob : Obj), v = .ref T ∧ H T = none ∧ ob.dict = none ∧ H' = upd H T (.frz ob (.tup [.int (i : Nat), x])) ∧ ∀ xs, SqL K H a xs → xs[i]? = some x
  stop := fun i H => ∃ xs : List V, SqL K H a xs ∧ xs.length = i
theorem turn_enumL {P : Program} {w : World} {K : PySem.W.Frag} {elts : List Expr} {kk : Nat} {tpos : Pos} (a e it : Addr) :
    Turn P w K (.Tuple elts kk tpos) (ItFL K a) [e, it] e (fun i h => (∃ old, IsEnum h e it ((i : Nat) : Int) old) ∧ h.IsListIter it a i ∧ e ≠ it) where
  mem := by simp
  obj := fun i h st b hb => by
    obtain ⟨⟨old, en⟩, ⟨o, ho, oc, od⟩, _⟩ := st
    rcases List.mem_cons.mp hb with rfl | hb
    · exact ⟨_, en, fun v q => nomatch q⟩
    · rw [List.mem_singleton.mp hb]
      exact ⟨o, ho, fun v q => by rw [od] at q; cases q⟩
  keep := fun i h h' st k => let ⟨⟨old, en⟩, hi, ne⟩ := st; ⟨⟨old, k e (by simp) _ en⟩, hi.at fun o q => k it (by simp) o q, ne⟩
  item := by
    intro X hP hw hK hc i pins s σ H E I hf st hg
    subst hP hw hK
    obtain ⟨⟨old, en⟩, hit, ne⟩ := st
    obtain ⟨xs, x, hq, hx⟩ := hg
    obtain ⟨its, rv, p, hz⟩ := I.list hq
    obtain ⟨u, hu, ru⟩ := rv.get hx
    have pt := p.isList
    have eT : e ≠ a := fun z => by
      obtain ⟨o, k1, k2, _⟩ := pt
      rw [← z] at k1
      have en : s.heap.get? e = some _ := en
      rw [en] at k1
      cases k1
      simp at k2
    have iT : a ≠ it := fun z => by
      obtain ⟨o, k1, k2, _⟩ := pt
      obtain ⟨o', k3, k4, _⟩ := hit
      rw [z, k3] at k1
      cases k1
      rw [k4] at k2
      simp at k2
    have hd : X.A.in1.handled = none := I.ok.hd hc
    have D := Draws.list (prog := X.prog) (w := X.w) (A := X.A.in1) hd it a iT its.toArray
    have lu : i < its.toArray.size := by
      have := (List.getElem?_eq_some_iff.mp hu).1
      simpa using this
    have el : e < s.heap.objs.size := Heap.lt_size en
    have il : it < s.heap.objs.size := by obtain ⟨_, q, _⟩ := hit; exact Heap.lt_size q
    refine wpAny_pyNext_enum_itemD D en ⟨hit, pt⟩ lu ne (by simp [ne, eT]) fun v h' tk pv out st' hT sz hk => ?_
    have ev : v = u := by
      have : its.toArray[i]? = some v := pv
      rw [List.getElem?_toArray, hu] at this
      exact (Option.some.inj this).symm
    subst ev
    refine ⟨_, rfl, wpAny_letOwnedTupleGo_enum (s := { s with heap := h', toks := tk + 1 }) out fun h'' en2 sb => ?_⟩
    have hT2 := (sb.2 _ (Nat.ne_of_gt el)).trans hT
    have new : ObjOk X.prog X.w (upd H s.heap.objs.size (.frz { cls := .type "tuple", data := .seq #[.int i tk, v] } (.tup [.int (i : Nat), x]))) h'' s.heap.objs.size (.frz { cls := .type "tuple", data := .seq #[.int i tk, v] } (.tup [.int (i : Nat), x])) :=
      ⟨hT2, by show 2 ≤ sizeLine; decide, [.int i tk, v], .cons ⟨_, rfl⟩ (.cons ru .nil), ⟨_, hT2, rfl, _, rfl⟩⟩
    have I1 := I.turnedNew (t' := tk + 1) (ch := [e, it]) (fun b ob nb q => (sb.2 b (fun z => nb (by simp [z]))).trans (hk b ob (fun z => nb (by simp [z])) (fun z => nb (by simp [z])) q)) hf (Nat.le_refl _) new
    refine ⟨.ref s.heap.objs.size, _, I1, rfl, ⟨_, x, _, rfl, I.hok.fresh (Nat.le_refl _), rfl, rfl, fun ys hy => by rw [I.list_inj hy hq]; exact hx⟩, ⟨⟨v, ?_⟩, st'.1.at fun o q => (sb.2 it (Ne.symm ne)).trans q, ne⟩, fun b hb => ?_⟩
    · rw [show ((i + 1 : Nat) : Int) = (i : Int) + 1 by omega]
      exact en2
    · have lb : b < s.heap.objs.size := by
        rcases List.mem_cons.mp hb with rfl | hb
        · exact el
        · rw [List.mem_singleton.mp hb]; exact il
      rw [upd_ne (Nat.ne_of_lt lb)]
      exact (hf b hb).1
  done := by
    intro X hP hw hK hc i pins s σ H E I hf st hg
    subst hP hw hK
    obtain ⟨⟨old, en⟩, hit, ne⟩ := st
    obtain ⟨xs, hq, hx⟩ := hg
    obtain ⟨its, rv, p, hz⟩ := I.list hq
    obtain ⟨f0, f1, f2, f3, f4, f5⟩ := hf it (by simp)
    have pt := p.isList
    have iT : a ≠ it := fun z => by
      obtain ⟨o, k1, k2, _⟩ := pt
      obtain ⟨o', k3, k4, _⟩ := hit
      rw [z, k3] at k1
      cases k1
      rw [k4] at k2
      simp at k2
    have hd : X.A.in1.handled = none := I.ok.hd hc
    have D := Draws.list (prog := X.prog) (w := X.w) (A := X.A.in1) hd it a iT its.toArray
    have ei : its.toArray.size = i := by
      have := rv.length
      simp
      omega
    refine wpAny_pyNext_enum_endD D en (by rw [ei]; exact ⟨hit, pt⟩) fun h' eb => ⟨rfl, I.turned (t' := s.toks) (fun b o hb q => eb b o hb q) f0 f1 f3 f4 f5⟩
  self := fun A i s Q E st h => let ⟨⟨_, en⟩, _⟩ := st; wpAny_pyIter_enum en h
def iEnumL (K : PySem.W.Frag) (te : TE) : TI := fun σ H R => te σ H fun x H1 => ∃ a xs, [x] = [V.ref a] ∧ SqL K H1 a xs ∧ R (ItFL K a) H1
theorem pi_enumL {X : Cx} {e : Expr} {te : TE} {p pos tpos : Pos} {elts : List Expr} {kk : Nat} (hg : Gl X "enumerate") (hm : X.mg "enumerate" = none) (he : PE X e te) (hs : starEach [e] X.env = [(false, eval e X.env)] := by rfl) :
    PI X (.Tuple elts kk tpos) (.Call (.Name "enumerate" p) [e] [] pos) (iEnumL X.K te) := by
  have ha : PA X [e] (tCons te tNil) := pa_cons he pa_nil hs
  refine ⟨fun pins s σ H R I h => ?_⟩
  have h2 : tCons te tNil σ H fun vs H1 => ∃ a xs, vs = [V.ref a] ∧ SqL X.K H1 a xs ∧ R (ItFL X.K a) H1 := h
  refine Call_ (ld_blt I hg hm boot_enumerate (PyProof.Rows.callWith_type1 (thn (ha.run pos pins s σ H _ I h2) fun us s1 ⟨vs, H1, I1, r1, a, xs, ex, hq, q⟩ => ?_) hs rfl))
  subst ex
  cases r1 with
  | cons r rr =>
    cases rr
    cases r
    obtain ⟨its, rv, p', hz⟩ := I1.list hq
    refine call_enumerate_list p'.isList fun h' en hit hsz hk => wpAny_pyIter_enum en ?_
    have I2 : Inv X pins σ H1 { s1 with heap := h' } := I1.kept (t' := s1.toks) hk
    refine ⟨s1.heap.objs.size + 1, [s1.heap.objs.size + 1, s1.heap.objs.size], _, _, H1, rfl, I2, turn_enumL a (s1.heap.objs.size + 1) s1.heap.objs.size, ⟨⟨.none, en⟩, hit, Nat.succ_ne_self _⟩, fun b hb => ?_, q⟩
    have le : s1.heap.objs.size ≤ b := by
      rcases List.mem_cons.mp hb with rfl | hb
      · exact Nat.le_add_right _ _
      · rw [List.mem_singleton.mp hb]; exact Nat.le_refl _
    exact I1.fpOk le (I1.hok.fresh le)
def mEnumL (a : M) : ML := fun env S => (a env S).bind fun x => match x.1 with
  | .lst ds => if ds.length ≤ 1000 then some (numD ds, x.2) else none
  | _ => none
theorem it_enumL {K : PySem.W.Frag} {ps a : Addr} {O : Addr → Prop} {H : Hp} {vs : List V} {ds : List Dat} (hT : H a = some (.lst vs)) (na : ¬ O a) (l : RepL O ps H vs ds) (hz : ds.length ≤ 1000) : ItOk ps (Lt2 O H) (ItFL K a) (numD ds) where
  go := fun O' H' i h hi => by
    obtain ⟨_, h1⟩ := (h.1.sq _ (.lst vs) trivial na hT)
    unfold numD at hi
    rw [List.length_map, List.length_zipIdx, ← l.len] at hi
    exact ⟨vs, vs[i], (SqL.of h1), List.getElem?_eq_getElem hi⟩
  yld := fun O' H' i x H'' d h hd hy => by
    obtain ⟨_, h1⟩ := (h.1.sq _ (.lst vs) trivial na hT)
    obtain ⟨T, y, ob, rfl, nT, od, rfl, hy⟩ := hy
    have e1 := hy vs (SqL.of h1)
    unfold numD at hd
    rw [List.getElem?_map, List.getElem?_zipIdx] at hd
    cases e2 : ds[i]? with
    | none => rw [e2] at hd; cases hd
    | some d' =>
      rw [e2] at hd
      cases hd
      obtain ⟨v, e3, e4⟩ := (l.tr h.1).get e2
      rw [e1] at e3
      cases e3
      refine ⟨?_, .tup (.new od) (fun z => h.2 T z nT) (by show 2 ≤ sizeLine; decide) (repL_new (.cons (by rw [Nat.zero_add]; exact .int _) (.cons e4 .nil)) nT)⟩
      intro b o hb
      rw [upd_ne (fun z => by rw [z, nT] at hb; cases hb)]
      exact hb
  stop := fun O' H' h => by
    obtain ⟨_, h1⟩ := (h.1.sq _ (.lst vs) trivial na hT)
    unfold numD
    rw [List.length_map, List.length_zipIdx]
    exact ⟨vs, (SqL.of h1), l.len⟩
  sz := by
    unfold numD
    rw [List.length_map, List.length_zipIdx]
    exact Nat.le_trans hz (by decide)
theorem sf_enumL {K : PySem.W.Frag} {te : TE} {a : M} (h : SE te a) : SF (iEnumL K te) (mEnumL a) := by
  intro O P σ H env S r R I e q
  unfold mEnumL at e
  cases ea : a env S with
  | none => rw [ea] at e; cases e
  | some x =>
    rw [ea] at e
    simp only [Option.bind_some] at e
    split at e
    · rename_i ds hd
      split at e
      · rename_i hz
        cases e
        refine h O P σ H env S x _ I ea fun v H' f s rx => ?_
        rw [hd] at rx
        cases rx with
        | @lst b vs _ hb nb hzz l => exact ⟨b, vs, rfl, (SqL.of hb), q _ H' f s (it_enumL hb nb l hz)⟩
      · cases e
    · cases e
theorem pf_enumL {X : Cx} {e : Expr} {te : TE} {a : M} {p pos tpos : Pos} {elts : List Expr} {kk : Nat} (hg : Gl X "enumerate") (hm : X.mg "enumerate" = none) (he : PDE X e te a) (hs : starEach [e] X.env = [(false, eval e X.env)] := by rfl) :
    PDF X (.Tuple elts kk tpos) (.Call (.Name "enumerate" p) [e] [] pos) (iEnumL X.K te) (mEnumL a) := ⟨pi_enumL hg hm he.pe hs, sf_enumL he.sem⟩
theorem w_enumL {a : M} {env : DEnv} {S : Sm} {QL : List Dat → Sm → Prop} : Ok (mEnumL a env S) QL ↔ Ok (a env S) fun d S1 => ∃ ds, d = .lst ds ∧ ds.length ≤ 1000 ∧ QL (numD ds) S1 := by
  unfold mEnumL
  simp only [ok_bind]
  constructor <;> refine fun h => h.mono fun d S1 q => ?_
  · cases d with
    | lst ds =>
      simp only at q
      split at q
      · exact ⟨ds, rfl, by assumption, ok_some.mp q⟩
      · exact (ok_none.mp q).elim
    | _ => exact (ok_none.mp q).elim
  · obtain ⟨ds, rfl, hz, q⟩ := q
    simp only [if_pos hz]
    exact ok_some.mpr q
end PD

namespace PD
open PySem PySem.Spec PyProof.Rows L2
/-! ### exceptions of the program's own classes, with fields, among the statements -/
abbrev Exf := List (Str × Dat)
inductive Rx where
  | ok (d : Dat) | ex (c : Nat) (fs : Exf)
inductive FlX where
  | fl (f : Fl) | ex (c : Nat) (fs : Exf) (env : DEnv)
abbrev PhiX := List Dat → Sm → Option (Rx × Sm)
abbrev MX := DEnv → Sm → Option (FlX × Sm)
/-- the dict of a caught exception bears its fields -/
def RepF (O : Addr → Prop) (ps : Addr) (H : Hp) (dd : Addr) (fs : Exf) : Prop := ∃ vs : List V, H dd = some (.xd ((fs.map (·.1)).zip vs)) ∧ RepL O ps H vs (fs.map (·.2))
def GoodX (Cl : Nat → Addr) (φ : PhiX) : Sp := fun vs H Q E => ∃ (O : Addr → Prop) (P : Fix) (ds : List Dat) (S : Sm) (r : Rx × Sm), HI O P H S ∧ RepL O P.ps H vs ds ∧ φ ds S = some r ∧
  match r with
  | (.ok d, S') => ∀ v H', Fr P H H' → StrmAt P H' S' → Rep O P.ps H' v d → Q v H'
  | (.ex c fs, S') => ∀ dd H', Fr P H H' → StrmAt P H' S' → RepF O P.ps H' dd fs → E (.ref (Cl c)) (some dd) H'
def PostX (Cl : Nat → Addr) (W : WX) (F : FX) (σ : L2.St) (H : Hp) (env : DEnv) (D : Ends) : FlX × Sm → Prop
  | (.fl f, S') => Post F σ H env D (f, S')
  | (.ex c fs env', S') => ∀ σ' H' dd, SInv F σ' H' env' S' → RepF F.O0 F.P.ps H' dd fs → W (.ref (Cl c)) (some dd) σ' H'
def SX (Cl : Nat → Addr) (W : WX) (t : TS) (m : MX) : Prop := ∀ (F : FX) (σ : L2.St) (H : Hp) (env : DEnv) (S : Sm) (out : FlX × Sm) (D : Ends), SInv F σ H env S → m env S = some out → PostX Cl W F σ H env D out → t D σ H
structure PXS (Cl : Nat → Addr) (X : Cx) (W : WX) (st : Stmt) (t : TS) (m : MX) : Prop where
  ps : Takes X W → PS X st t
  sem : SX Cl W t m
structure PXSs (Cl : Nat → Addr) (X : Cx) (W : WX) (st : List Stmt) (t : TS) (m : MX) : Prop where
  ps : Takes X W → PSs X st t
  sem : SX Cl W t m
def mLift (m : MS') : MX := fun env S => (m env S).map fun r => (.fl r.1, r.2)
theorem sx_lift {Cl : Nat → Addr} {W : WX} {t : TS} {m : MS'} (h : SS t m) : SX Cl W t (mLift m) := by
  intro F σ H env S out D I e p
  unfold mLift at e
  cases em : m env S with
  | none => rw [em] at e; cases e
  | some r =>
    rw [em] at e
    cases e
    exact h F σ H env S r D I em p
def mSeqX (a b : MX) : MX := fun env S => (a env S).bind fun r => match r with
  | (.fl (.nx env1), S1) => b env1 S1
  | r => some r
theorem PostX.back {Cl : Nat → Addr} {W : WX} {F : FX} {σ σ1 : L2.St} {H H1 : Hp} {env env1 : DEnv} {D : Ends} {out : FlX × Sm} (p : PostX Cl W F σ H env D out) (t : Tr (ownS F.O0 σ env) H (ownS F.O0 σ1 env1) H1) : PostX Cl W F σ1 H1 env1 D out := by
  obtain ⟨f, S'⟩ := out
  cases f with
  | fl f => exact Post.back (out := (f, S')) p t
  | ex c fs env' => exact p
theorem sx_seq {Cl : Nat → Addr} {W : WX} {t u : TS} {a b : MX} (h1 : SX Cl W t a) (h2 : SX Cl W u b) : SX Cl W (tSeq t u) (mSeqX a b) := by
  intro F σ H env S out D I e p
  unfold mSeqX at e
  cases ea : a env S with
  | none => rw [ea] at e; cases e
  | some r =>
    rw [ea] at e
    simp only [Option.bind_some] at e
    refine h1 F σ H env S r _ I ea ?_
    obtain ⟨f, S'⟩ := r
    cases f with
    | fl f =>
      cases f with
      | nx env1 => exact fun σ1 H1 I1 t1 => h2 F σ1 H1 env1 S' out D I1 e (p.back t1)
      | bk env1 => cases e; exact p
      | ct env1 => cases e; exact p
      | rt d => cases e; exact p
    | ex c fs env' => cases e; exact p
def mIfX (c : MT) (a b : MX) : MX := fun env S => (c env S).bind fun r => if r.1 = true then a env r.2 else b env r.2
theorem sx_if {Cl : Nat → Addr} {W : WX} {tc : TT} {c : MT} {t u : TS} {a b : MX} (h : ST tc c) (h1 : SX Cl W t a) (h2 : SX Cl W u b) : SX Cl W (tIfS tc t u) (mIfX c a b) := by
  intro F σ H env S out D I e p
  unfold mIfX at e
  cases ec : c env S with
  | none => rw [ec] at e; cases e
  | some r =>
    rw [ec] at e
    simp only [Option.bind_some] at e
    refine h _ F.P σ H env S r _ I.ei ec fun H1 f s => ?_
    have I1 := I.fr f s
    have p1 := p.back (f.tr I.ei.ops)
    split
    · rename_i hb
      rw [if_pos hb] at e
      exact h1 F σ H1 env r.2 out D I1 e p1
    · rename_i hb
      rw [if_neg hb] at e
      exact h2 F σ H1 env r.2 out D I1 e p1
/-! calls that may raise: f(..), return f(..), x = f(..) -/
theorem o0_tr {F : FX} {σ : L2.St} {env : DEnv} {H : Hp} : Tr (ownS F.O0 σ env) H F.O0 H := .of fun a u na e => ⟨fun z => na (.inl z), e⟩
theorem RepF.o0 {F : FX} {σ : L2.St} {env : DEnv} {ps : Addr} {H : Hp} {dd : Addr} {fs : Exf} (r : RepF (ownS F.O0 σ env) ps H dd fs) : RepF F.O0 ps H dd fs := let ⟨vs, h, l⟩ := r; ⟨vs, h, l.tr o0_tr⟩
def mCallX (φ : PhiX) (k : Dat → DEnv → Option Fl) (a : ML) : MX := fun env S => (a env S).bind fun r => (φ r.1 r.2).bind fun q => match q with
  | (.ok d, S') => (k d env).map fun f => (.fl f, S')
  | (.ex c fs, S') => some (.ex c fs env, S')
theorem sx_call {Cl : Nat → Addr} {W : WX} {φ : PhiX} {ta : TA} {a : ML} (h : SA ta a) : SX Cl W (tDrop (tCallS (GoodX Cl φ) (WE W) ta)) (mCallX φ (fun _ env => some (.nx env)) a) := by
  intro F σ H env S out D I e p
  unfold mCallX at e
  cases ea : a env S with
  | none => rw [ea] at e; cases e
  | some x =>
    rw [ea] at e
    simp only [Option.bind_some] at e
    cases ew : φ x.1 x.2 with
    | none => rw [ew] at e; cases e
    | some w =>
      rw [ew] at e
      simp only [Option.bind_some] at e
      refine h _ F.P σ H env S x _ I.ei ea fun vs H' f s rs => ?_
      have I1 := I.fr f s
      refine ⟨_, F.P, x.1, x.2, w, I1.ei.hi, rs, ew, ?_⟩
      obtain ⟨r, S'⟩ := w
      cases r with
      | ok d =>
        cases e
        exact fun v H2 f2 s2 rv => p σ H2 (I1.fr f2 s2) ((f.trans f2).tr I.ei.ops)
      | ex c fs =>
        cases e
        exact fun dd H2 f2 s2 rf => p σ H2 dd (I1.fr f2 s2) rf.o0
theorem sx_retC {Cl : Nat → Addr} {W : WX} {φ : PhiX} {ta : TA} {a : ML} (h : SA ta a) : SX Cl W (tRet (tCallS (GoodX Cl φ) (WE W) ta)) (mCallX φ (fun d _ => some (.rt d)) a) := by
  intro F σ H env S out D I e p
  unfold mCallX at e
  cases ea : a env S with
  | none => rw [ea] at e; cases e
  | some x =>
    rw [ea] at e
    simp only [Option.bind_some] at e
    cases ew : φ x.1 x.2 with
    | none => rw [ew] at e; cases e
    | some w =>
      rw [ew] at e
      simp only [Option.bind_some] at e
      refine h _ F.P σ H env S x _ I.ei ea fun vs H' f s rs => ?_
      have I1 := I.fr f s
      refine ⟨_, F.P, x.1, x.2, w, I1.ei.hi, rs, ew, ?_⟩
      obtain ⟨r, S'⟩ := w
      cases r with
      | ok d =>
        cases e
        exact fun v H2 f2 s2 rv => p v H2 (I.frm.trans (f.trans f2)) s2 (rv.tr o0_tr)
      | ex c fs =>
        cases e
        exact fun dd H2 f2 s2 rf => p σ H2 dd (I1.fr f2 s2) rf.o0
theorem sx_setC {Cl : Nat → Addr} {W : WX} {φ : PhiX} {ta : TA} {a : ML} {i : Nat} (h : SA ta a) : SX Cl W (tAsg (tCallS (GoodX Cl φ) (WE W) ta) (gName i)) (mCallX φ (fun d env => if i < env.length then some (.nx (env.set i (.fz d))) else none) a) := by
  intro F σ H env S out D I e p
  unfold mCallX at e
  cases ea : a env S with
  | none => rw [ea] at e; cases e
  | some x =>
    rw [ea] at e
    simp only [Option.bind_some] at e
    cases ew : φ x.1 x.2 with
    | none => rw [ew] at e; cases e
    | some w =>
      rw [ew] at e
      simp only [Option.bind_some] at e
      refine h _ F.P σ H env S x _ I.ei ea fun vs H' f s rs => ?_
      have I1 := I.fr f s
      refine ⟨_, F.P, x.1, x.2, w, I1.ei.hi, rs, ew, ?_⟩
      obtain ⟨r, S'⟩ := w
      cases r with
      | ok d =>
        by_cases hi : i < env.length
        · simp only [if_pos hi] at e
          cases e
          refine fun v H2 f2 s2 rv => ?_
          obtain ⟨J, t⟩ := (I1.fr f2 s2).setF hi rv
          exact p _ H2 J (((f.trans f2).tr I.ei.ops).trans t)
        · simp only [if_neg hi] at e
          cases e
      | ex c fs =>
        cases e
        exact fun dd H2 f2 s2 rf => p σ H2 dd (I1.fr f2 s2) rf.o0
/-! raise C(e), C with an __init__ that keeps its one argument -/
structure XCls (K : PySem.W.Frag) (mg : Str → Option Value) (x f : Str) (C fI : Addr) : Prop where
  oex : OexC K C
  no : PySem.W.findIn K (.ref C) f = some none
  ini : PySem.W.findIn K (.ref C) "__init__" = some (some (.ref fI))
  tI : PySem.W.typeIn K (.ref fI) = some (.type "function")
  gC : mg x = some (.ref C)
  xf : XfC K C
def spInit (K : PySem.W.Frag) (f : Str) : Sp := fun vs H Q _ => ∃ (a C : Addr) (v : V), vs = [.ref a, v] ∧ OexC K C ∧ PySem.W.findIn K (.ref C) f = some none ∧ H a = some (exo a C none) ∧
  ∀ dx, H dx = none → dx ≠ a → Q .non (upd (upd H dx (exd dx [(f, v)])) a (exo a C (some dx)))
theorem ok_initX {P : Program} {w : World} {K : PySem.W.Frag} {mg : Str → Option Value} {base : Heap} {qual f : Str} {st : Stmt} {fI : Addr} {fd : FuncData} {p1 p2 p3 p4 : Pos} (F : Fun K "__init__" qual st fI fd) (S : FnScope ["self", f] ["self", f] (defScope st))
    (hb : defBody st = [.Assign [.Attribute (.Name "self" p1) f p2] (.Name f p3) p4])
    (hN0 : Vis (defScope st) "self" := by first | exact Or.inl rfl | exact Or.inr (Or.inl rfl) | exact Or.inr (Or.inr rfl)) (hN1 : Vis (defScope st) f := by first | exact Or.inl rfl | exact Or.inr (Or.inl rfl) | exact Or.inr (Or.inr rfl))
    (hd : (f == ("__debug__" : Str)) = false := by decide) (hcd : (f == ("__classdict__" : Str)) = false := by decide) : FnOk P w K mg base CX0 1 fI fd ["self", f] (spInit K f) := by
  refine F.ok S (fun vs H Q E h => ?_) fun cdv A outer s H vs Q E hr h => ?_
  · obtain ⟨a, C, v, rfl, _⟩ := h
    rfl
  · rw [hb]
    refine ⟨_, pss_one (ps_ost (pe_var (i := 0) rfl hN0) (pe_var (i := 1) rfl hN1 hd hcd) ?_), ?_⟩
    · rfl
    · obtain ⟨a, C, v, rfl, T, no, ha, q⟩ := h
      refine ⟨v, rfl, .ref a, rfl, a, C, rfl, T, no, .inl ⟨ha, fun dx n ne => ?_⟩⟩
      exact q dx n ne
def mRaise (c : Nat) (f : Str) (a : ML) : MX := fun env S => (a env S).bind fun r => match r.1 with
  | [d] => some (.ex c [(f, d)] env, r.2)
  | _ => none
theorem sx_raise {Cl : Nat → Addr} {K : PySem.W.Frag} {mg : Str → Option Value} {W : WX} {x f : Str} {fI : Addr} {c : Nat} {ta : TA} {a : ML} (T : XCls K mg x f (Cl c) fI) (h : SA ta a) :
    SX Cl W (fun _ σ H => tMkO (Cl c) (spInit K f) [] ta σ H fun cls d H' => W cls d σ H') (mRaise c f a) := by
  intro F σ H env S out D I e p
  unfold mRaise at e
  cases ea : a env S with
  | none => rw [ea] at e; cases e
  | some r =>
    obtain ⟨ds, S'⟩ := r
    rw [ea] at e
    simp only [Option.bind_some] at e
    match ds, e, ea with
    | [d], e, ea =>
      cases e
      refine h _ F.P σ H env S _ _ I.ei ea fun vs H' fr s rs => ?_
      cases rs with
      | @cons v _ vs _ rv rs =>
        cases rs
        refine ⟨by show 1 ≤ 1000; decide, fun ad na => ⟨ad, Cl c, v, rfl, T.oex, T.no, upd_same, fun dx nx ne => ⟨rfl, dx, [(f, v)], upd_same, ?_, ?_, ?_⟩⟩⟩
        · rw [upd_ne ne, upd_same]
        · rwa [upd_ne ne] at nx
        · have nx' : H' dx = none := by rwa [upd_ne ne] at nx
          have fr2 : Fr F.P H' (upd (del (upd (upd (upd H' ad (exo ad (Cl c) none)) dx (exd dx [(f, v)])) ad (exo ad (Cl c) (some dx))) ad) dx (.xd [(f, v)])) := fun b o nb hb => by
            have b1 : b ≠ ad := ne_of_none hb na
            have b2 : b ≠ dx := ne_of_none hb nx'
            rw [upd_ne b2, del_ne b1, upd_ne b1, upd_ne b2, upd_ne b1]
            exact hb
          have s2 : StrmAt F.P (upd (del (upd (upd (upd H' ad (exo ad (Cl c) none)) dx (exd dx [(f, v)])) ad (exo ad (Cl c) (some dx))) ad) dx (.xd [(f, v)])) S' := by
            have q : ∀ b o, H' b = some o → (upd (del (upd (upd (upd H' ad (exo ad (Cl c) none)) dx (exd dx [(f, v)])) ad (exo ad (Cl c) (some dx))) ad) dx (.xd [(f, v)])) b = some o := fun b o hb => by
              have b1 : b ≠ ad := ne_of_none hb na
              have b2 : b ≠ dx := ne_of_none hb nx'
              rw [upd_ne b2, del_ne b1, upd_ne b1, upd_ne b2, upd_ne b1]
              exact hb
            exact ⟨q _ _ s.1, q _ _ s.2⟩
          exact p σ _ dx ((I.fr fr s).fr fr2 s2) ⟨[v], upd_same, .cons ((rv.tr (fr2.tr I.ei.ops)).tr o0_tr) .nil⟩
    | [], e, _ => cases e
    | _ :: _ :: _, e, _ => cases e
section
variable {Cl : Nat → Addr} {X : Cx} {W : WX} {st : Stmt} {rest : List Stmt} {t u : TS} {a b : MX} {m : MS'} {pos : Pos}
theorem pxs_nil : PXSs Cl X W [] tNext (mLift mNext) := ⟨fun _ => pss_nil, sx_lift ss_next⟩
theorem pxs_cons (h : PXS Cl X W st t a) (h2 : PXSs Cl X W rest u b) : PXSs Cl X W (st :: rest) (tSeq t u) (mSeqX a b) := ⟨fun tk => pss_cons (h.ps tk) (h2.ps tk), sx_seq h.sem h2.sem⟩
theorem pxs_one (h : PXS Cl X W st t a) : PXSs Cl X W [st] t a := ⟨fun tk => pss_one (h.ps tk), h.sem⟩
theorem pxs_tail (h : PDSs X.nox rest t m) : PXSs Cl X W rest t (mLift m) := ⟨fun _ => h.ps.nox, sx_lift h.sem⟩
theorem px_plain (h : PDS X st t m) : PXS Cl X W st t (mLift m) := ⟨fun _ => h.ps, sx_lift h.sem⟩
theorem px_if {c : Expr} {p q : List Stmt} {tc : TT} {mc : MT} (h : PDT X c tc mc) (h1 : PXSs Cl X W p t a) (h2 : PXSs Cl X W q u b) : PXS Cl X W (.If c p q pos) (tIfS tc t u) (mIfX mc a b) := ⟨fun tk => ps_if h.pt (h1.ps tk) (h2.ps tk), sx_if h.sem h1.sem h2.sem⟩
section
variable {φ : PhiX} {k : Nat} {f : Addr} {fd : FuncData} {ps : List Str} {x y : Str} {p pos' : Pos} {e : Expr} {es : List Expr} {ta : TA} {ml : ML}
theorem px_call (F : FnOk X.prog X.w X.K X.mg X.base (L2.CX X.prog X.w) k f fd ps (GoodX Cl φ)) (hr : Room k X.A) (hg : Gl X x) (hm : X.mg x = some (.ref f)) (hk : PySem.W.keepIn X.K (.ref f) = true) (hb : Binds X.K fd ps [])
    (ha : PDA X (e :: es) ta ml) (hdb : (x == ("__debug__" : Str)) = false := by decide) (he : starEach (e :: es) X.env = (false, eval e X.env) :: starEach es X.env := by rfl) (hpl : (backTo pos (starEach es X.env)).any (·.1) = false := by rfl)
    (hs : swapsWith (.Call (.Name x p) (e :: es) [] pos) none pos'.line X.env = pure false := by rfl) :
    PXS Cl X W (.Expr (.Call (.Name x p) (e :: es) [] pos) pos') (tDrop (tCallS (GoodX Cl φ) (WE W) ta)) (mCallX φ (fun _ env => some (.nx env)) ml) := ⟨fun tk => ps_expr (pe_callS F hr hg hm hk hb (fun σ => passAt tk σ) ha.pa hdb he hpl) hs, sx_call ha.sem⟩
theorem px_retC (F : FnOk X.prog X.w X.K X.mg X.base (L2.CX X.prog X.w) k f fd ps (GoodX Cl φ)) (hr : Room k X.A) (hg : Gl X x) (hm : X.mg x = some (.ref f)) (hk : PySem.W.keepIn X.K (.ref f) = true) (hb : Binds X.K fd ps [])
    (ha : PDA X (e :: es) ta ml) (hdb : (x == ("__debug__" : Str)) = false := by decide) (he : starEach (e :: es) X.env = (false, eval e X.env) :: starEach es X.env := by rfl) (hpl : (backTo pos (starEach es X.env)).any (·.1) = false := by rfl) :
    PXS Cl X W (.Return (some (.Call (.Name x p) (e :: es) [] pos)) pos') (tRet (tCallS (GoodX Cl φ) (WE W) ta)) (mCallX φ (fun d _ => some (.rt d)) ml) := ⟨fun tk => ps_ret (pe_callS F hr hg hm hk hb (fun σ => passAt tk σ) ha.pa hdb he hpl), sx_retC ha.sem⟩
theorem px_setC {i : Nat} {pos2 : Pos} (hN : X.N.Nodup) (hi : X.N[i]? = some y) (hx : Loc X.env.scope y) (F : FnOk X.prog X.w X.K X.mg X.base (L2.CX X.prog X.w) k f fd ps (GoodX Cl φ)) (hr : Room k X.A) (hg : Gl X x) (hm : X.mg x = some (.ref f)) (hk : PySem.W.keepIn X.K (.ref f) = true) (hb : Binds X.K fd ps [])
    (ha : PDA X (e :: es) ta ml) (hdb : (x == ("__debug__" : Str)) = false := by decide) (he : starEach (e :: es) X.env = (false, eval e X.env) :: starEach es X.env := by rfl) (hpl : (backTo pos (starEach es X.env)).any (·.1) = false := by rfl)
    (hs : swapsWith (.Call (.Name x p) (e :: es) [] pos) (some (.Name y pos')) pos2.line X.env = pure false := by rfl) (hf : X.fn y = true ∨ X.env.scope.names.lookup y = some .local := by first | exact .inl rfl | exact .inr rfl | assumption) :
    PXS Cl X W (.Assign [.Name y pos'] (.Call (.Name x p) (e :: es) [] pos) pos2) (tAsg (tCallS (GoodX Cl φ) (WE W) ta) (gName i)) (mCallX φ (fun d env => if i < env.length then some (.nx (env.set i (.fz d))) else none) ml) :=
  ⟨fun tk => ps_set hN hi hx (pe_callS F hr hg hm hk hb (fun σ => passAt tk σ) ha.pa hdb he hpl) hs hf, sx_setC ha.sem⟩
end
theorem px_raise {x f : Str} {fI : Addr} {fdI : FuncData} {e : Expr} {ta : TA} {ml : ML} {p pos2 : Pos} (c : Nat) (hc : X.calm = true) (T : XCls X.K X.mg x f (Cl c) fI) (F1 : FnOk X.prog X.w X.K X.mg X.base CX0 1 fI fdI ["self", f] (spInit X.K f)) (hb : Binds X.K fdI ["self", f] [])
    (hr : Room 2 X.A) (hg : Gl X x) (ha : PDA X [e] ta ml) (hdb : (x == ("__debug__" : Str)) = false := by decide) (he : starEach [e] X.env = (false, eval e X.env) :: starEach [] X.env := by rfl) (hpl : (backTo pos (starEach [] X.env)).any (·.1) = false := by rfl) :
    PXS Cl X W (.Raise (some (.Call (.Name x p) [e] [] pos)) none pos2) (fun _ σ H => tMkO (Cl c) (spInit X.K f) [] ta σ H fun cls d H' => W cls d σ H') (mRaise c f ml) :=
  ⟨fun tk => ps_raise hc tk (pmk_oex T.oex T.ini T.tI F1 hr hb .nil pass0 hg T.gC ha.pa hdb he hpl), sx_raise T ha.sem⟩
end
/-! ### defs that may raise -/
def runX (N : List Str) (n : Nat) (m : MX) : PhiX := fun ds S => if ds.length = n then match m (initE N ds) S with
  | some (.fl (.rt d), S') => some (.ok d, S')
  | some (.fl (.nx _), S') => some (.ok .non, S')
  | some (.ex c fs _, S') => some (.ex c fs, S')
  | _ => none else none
theorem fn_goodX {Cl : Nat → Addr} {P : Program} {w : World} {K : PySem.W.Frag} {mg : Str → Option Value} {base : Heap} {x qual : Str} {st : Stmt} {f : Addr} {fd : FuncData} {N ps : List Str} {k : Nat} {m : MX} (F : Fun K x qual st f fd) (S : FnScope N ps (defScope st))
    (hb : ∀ (cdv : Value) (A : Around) (outer : List Env) (s : Shared) (H : Hp) (E : XK), Room k (A.deeper (envOfC qual (defScope st) s.heap.objs.size f cdv)) → ∃ t, PXSs Cl (cxOf (L2.CX P w) P w K mg base N qual (defScope st) f cdv A outer s H E) (fun cls d _ H => E cls d H) (defBody st) t m) :
    FnOk P w K mg base (L2.CX P w) (k + 1) f fd ps (GoodX Cl (runX N ps.length m)) := by
  refine F.okX S (fun vs H Q E h => ?_) fun cdv A outer s H vs Q E hr h => ?_
  · obtain ⟨O, P', ds, S', r, _, rl, e, _⟩ := h
    unfold runX at e
    split at e
    · rw [rl.len]; assumption
    · cases e
  · obtain ⟨O, P', ds, S', r, I, rl, e, q⟩ := h
    obtain ⟨t, ht⟩ := hb cdv A outer s H E hr
    refine ⟨t, ht.ps (takes_of rfl rfl rfl rfl), ?_⟩
    unfold runX at e
    split at e
    · cases em : m (initE N ds) S' with
      | none => rw [em] at e; cases e
      | some out =>
        rw [em] at e
        refine ht.sem ⟨P', O, H⟩ _ H _ S' out _ (start_inv I rl) em ?_
        obtain ⟨fl, S2⟩ := out
        cases fl with
        | fl fl =>
          cases fl with
          | nx env => cases e; exact fun σ' H' J _ => q .non H' J.frm J.ei.sm .non
          | rt d => cases e; exact fun v H' f s rv => q v H' f s rv
          | bk env => cases e
          | ct env => cases e
        | ex c fs env => cases e; exact fun σ' H' dd J rf => q dd H' J.frm J.ei.sm rf
    · cases e
/-! ### try: body, except C as e: a suite that returns -/
def mTry (i : Nat) (b : MX) (sd : Nat → Exf → Option Dat) : MS' := fun env S => (b env S).bind fun r => match r with
  | (.fl f, S') => some (f, S')
  | (.ex c fs env1, S') => if i < env1.length then (sd c fs).map fun d => (.rt d, S') else none
def SSu (Cl : Nat → Addr) (K : PySem.W.Frag) (cv : Value) (i : Nat) (ts : Addr → Value → Option Addr → TS) (sd : Nat → Exf → Option Dat) : Prop :=
  ∀ (O : Addr → Prop) (P : Fix) (H : Hp) (σ : L2.St) (S : Sm) (c : Nat) (fs : Exf) (d : Dat) (dd : Addr) (D : Ends), O P.ps → (∀ a, O a → H a ≠ none) → StrmAt P H S → RepF O P.ps H dd fs → i < σ.length → sd c fs = some d → (∀ v H2, Fr P H H2 → StrmAt P H2 S → Rep O P.ps H2 v d → D.rt v H2) →
    PySem.W.exmOne K (.ref (Cl c)) cv = some true ∧ ∀ a, H a = none → ts a (.ref (Cl c)) (some dd) D (σ.set i (some (.ref a))) H
theorem ss_try {Cl : Nat → Addr} {K : PySem.W.Frag} {cv : Value} {i : Nat} {ts : Addr → Value → Option Addr → TS} {tb : WX → TS} {mb : MX} {sd : Nat → Exf → Option Dat} (h : ∀ W, SX Cl W (tb W) mb) (hs : SSu Cl K cv i ts sd) :
    SS (fun D σ H => tb (wAs K cv i ts (fun _ _ _ _ => False) D) D σ H) (mTry i mb sd) := by
  intro F σ H env S out D I e p
  unfold mTry at e
  cases eb : mb env S with
  | none => rw [eb] at e; cases e
  | some r =>
    rw [eb] at e
    simp only [Option.bind_some] at e
    refine h _ F σ H env S r D I eb ?_
    obtain ⟨fl, S'⟩ := r
    cases fl with
    | fl f => cases e; exact p
    | ex c fs env1 =>
      intro σ' H' dd J rf
      simp only at e
      split at e
      · rename_i hi
        cases es : sd c fs with
        | none => rw [es] at e; cases e
        | some d =>
          rw [es] at e
          cases e
          obtain ⟨h1, h2⟩ := hs F.O0 F.P H' σ' S' c fs d dd { nx := fun σ' H' => D.nx (σ'.set i none) H', rt := D.rt, bk := fun σ' H' => D.bk (σ'.set i none) H', ct := fun σ' H' => D.ct (σ'.set i none) H' } J.ps0 (fun a o => J.ei.dom a (.inl o)) J.ei.sm rf (by rw [J.ei.len]; exact hi) es fun v H2 f s rv => p v H2 (J.frm.trans f) s rv
          exact ⟨true, h1, fun _ a na => h2 a na, fun q => Bool.noConfusion q⟩
      · cases e
section
variable {Cl : Nat → Addr} {X : Cx} {x n : Str} {c : Value} {i : Nat} {body suite : List Stmt} {b₀ : Stmt} {np pos pos' : Pos} {tb : WX → TS} {ts : Addr → Value → Option Addr → TS} {mb : MX} {sd : Nat → Exf → Option Dat}
theorem pd_try (hs : X.stack = X.env :: X.outer) (hf : X.env.frame = some X.env.locals) (hN : X.N.Nodup) (hi : X.N[i]? = some n) (hln : X.env.kindOf n = some .local) (hc : Names X x c)
    (hb : ∀ (W : WX) (pn : List (Addr × Obj)) (xe : Value → Shared → Prop), PXSs Cl (X.tr pn xe) W body (tb W) mb)
    (hsu : ∀ (a : Addr) (oe : Obj) (cls : Value) (d : Option Addr) (pn : List (Addr × Obj)), Zc cls d oe → (∃ vs, oe.data = .fields vs) → PSs (X.suite a ((a, oe) :: pn)) (b₀ :: suite) (ts a cls d))
    (hse : SSu Cl X.K c i ts sd) :
    PDS X (.Try body [.ExceptHandler (some (.Name x np)) (some n) (b₀ :: suite) pos'] [] [] pos) (fun D σ H => tb (wAs X.K c i ts (fun _ _ _ _ => False) D) D σ H) (mTry i mb sd) :=
  ⟨ps_try_as hs hf hN hi hln hc takes0 (fun W pn xe tk _ => (hb W pn xe).ps tk) hsu, ss_try (fun W => (hb W [] fun _ _ => False).sem) hse⟩
end
theorem repF_look {O : Addr → Prop} {ps : Addr} {H : Hp} {n : Str} {d : Dat} : ∀ {fs : Exf} {vs : List V}, RepL O ps H vs (fs.map (·.2)) → fs.lookup n = some d → ∃ v, ((fs.map (·.1)).zip vs).lookup n = some v ∧ Rep O ps H v d
  | [], _, _, e => by cases e
  | (k, x) :: fs, _, .cons (v := v) (vs := vs) r l, e => by
    rw [lookup_put_d] at e
    show ∃ u, (((k, v) :: (fs.map (·.1)).zip vs).lookup n = some u) ∧ _
    rw [lookup_put]
    by_cases h : n = k
    · rw [if_pos h] at e ⊢
      cases e
      exact ⟨v, rfl, r⟩
    · rw [if_neg h] at e ⊢
      exact repF_look l e
where
  lookup_put_d {k n : Str} {x : Dat} {fs : Exf} : ((k, x) :: fs).lookup n = if n = k then some x else fs.lookup n := by
    by_cases h : n = k
    · subst h; simp [List.lookup]
    · have e : (n == k) = false := by simpa using h
      rw [if_neg h]; simp [List.lookup, e]
/-- return e.f -/
def sdF (c0 : Nat) (n : Str) : Nat → Exf → Option Dat := fun c fs => if c = c0 then fs.lookup n else none
theorem su_f {Cl : Nat → Addr} {K : PySem.W.Frag} {cv : Value} {i c0 : Nat} {n : Str} (ex : PySem.W.exmOne K (.ref (Cl c0)) cv = some true) : SSu Cl K cv i (fun a cls d => tRet (tXf a cls d (Cl c0) n (tVar i))) (sdF c0 n) := by
  intro O P H σ S c fs d dd D o dom sm rf hi es q
  unfold sdF at es
  split at es
  · rename_i hc
    subst hc
    obtain ⟨vs, h1, l⟩ := rf
    obtain ⟨v, h2, rv⟩ := repF_look l es
    exact ⟨ex, fun a na => ⟨.ref a, List.getElem?_set_self hi, rfl, rfl, dd, _, v, rfl, h1, h2, q v H .refl sm rv⟩⟩
  · cases es
/-- return ("w", e.f) -/
def sdT (c0 : Nat) (w n : Str) : Nat → Exf → Option Dat := fun c fs => if c = c0 then (fs.lookup n).map fun d => .tup [.str w, d] else none
theorem su_t {Cl : Nat → Addr} {K : PySem.W.Frag} {cv : Value} {i c0 : Nat} {w n : Str} (hw : decide (w.length ≤ 1000) = true) (ex : PySem.W.exmOne K (.ref (Cl c0)) cv = some true) : SSu Cl K cv i (fun a cls d => tRet (tTupF (tCons (tC (.str w)) (tCons (tXf a cls d (Cl c0) n (tVar i)) tNil)))) (sdT c0 w n) := by
  intro O P H σ S c fs d dd D o dom sm rf hi es q
  unfold sdT at es
  split at es
  · rename_i hc
    subst hc
    obtain ⟨vs, h1, l⟩ := rf
    cases e2 : fs.lookup n with
    | none => rw [e2] at es; cases es
    | some d2 =>
      rw [e2] at es
      cases es
      obtain ⟨v, h2, rv⟩ := repF_look l e2
      refine ⟨ex, fun a na => ⟨.ref a, List.getElem?_set_self hi, rfl, rfl, dd, _, v, rfl, h1, h2, ?_⟩⟩
      refine ⟨by show 2 ≤ sizeLine; decide, fun p ob np nd => q _ _ (.new np) (sm.new np) (.tup (.new nd) (fun z => dom p z np) (by show 2 ≤ sizeLine; decide) ?_)⟩
      exact repL_new (.cons (.str w (Nat.le_trans (of_decide_eq_true hw) (by decide))) (.cons rv .nil)) np
  · cases es
end PD

namespace PD
open PySem PySem.Spec PyProof.Rows L2
/-! ### rewriting for the statements that may raise -/
section
variable {env : DEnv} {S : Sm} {QX : FlX → Sm → Prop} {QS : Fl → Sm → Prop} {QR : Rx → Sm → Prop}
theorem w_lift {m : MS'} : Ok (mLift m env S) QX ↔ Ok (m env S) fun f S1 => QX (.fl f) S1 := by unfold mLift; simp only [ok_mapS]
def seqX (b : MX) (QX : FlX → Sm → Prop) : FlX → Sm → Prop
  | .fl (.nx e), S => Ok (b e S) QX
  | f, S => QX f S
theorem seqX_nx {b : MX} {e : DEnv} : seqX b QX (.fl (.nx e)) S ↔ Ok (b e S) QX := Iff.rfl
theorem seqX_rt {b : MX} {d : Dat} : seqX b QX (.fl (.rt d)) S ↔ QX (.fl (.rt d)) S := Iff.rfl
theorem seqX_bk {b : MX} {e : DEnv} : seqX b QX (.fl (.bk e)) S ↔ QX (.fl (.bk e)) S := Iff.rfl
theorem seqX_ct {b : MX} {e : DEnv} : seqX b QX (.fl (.ct e)) S ↔ QX (.fl (.ct e)) S := Iff.rfl
theorem seqX_ex {b : MX} {c : Nat} {fs : Exf} {e : DEnv} : seqX b QX (.ex c fs e) S ↔ QX (.ex c fs e) S := Iff.rfl
theorem w_seqX {a b : MX} : Ok (mSeqX a b env S) QX ↔ Ok (a env S) (seqX b QX) := by
  unfold mSeqX; simp only [ok_bind]
  constructor <;> refine fun h => h.mono fun f S1 q => ?_ <;> cases f with
  | fl f => cases f <;> first | exact q | (simp only [ok_some] at q; exact q) | (simp only [ok_some]; exact q)
  | ex c fs e => first | exact q | (simp only [ok_some] at q; exact q) | (simp only [ok_some]; exact q)
theorem w_ifX {c : MT} {a b : MX} : Ok (mIfX c a b env S) QX ↔ Ok (c env S) fun t S1 => if t = true then Ok (a env S1) QX else Ok (b env S1) QX := by unfold mIfX; simp only [ok_bind, ok_ite]
def cxK (k : Dat → DEnv → Option Fl) (env : DEnv) (QX : FlX → Sm → Prop) : Rx → Sm → Prop
  | .ok d, S => Pu (k d env) fun f => QX (.fl f) S
  | .ex c fs, S => QX (.ex c fs env) S
theorem cxK_ok {k : Dat → DEnv → Option Fl} {d : Dat} : cxK k env QX (.ok d) S ↔ Pu (k d env) fun f => QX (.fl f) S := Iff.rfl
theorem cxK_ex {k : Dat → DEnv → Option Fl} {c : Nat} {fs : Exf} : cxK k env QX (.ex c fs) S ↔ QX (.ex c fs env) S := Iff.rfl
theorem w_callX {φ : PhiX} {k : Dat → DEnv → Option Fl} {a : ML} : Ok (mCallX φ k a env S) QX ↔ Ok (a env S) fun ds S1 => Ok (φ ds S1) (cxK k env QX) := by
  unfold mCallX; simp only [ok_bind]
  constructor <;> refine fun h => h.mono fun ds S1 q => q.mono fun r S2 q => ?_ <;> cases r with
  | ok d => first | exact ok_mapP.mp q | exact ok_mapP.mpr q
  | ex c fs => first | exact (ok_some (Q := QX)).mp q | exact (ok_some (Q := QX)).mpr q
theorem w_raise {c : Nat} {f : Str} {a : ML} : Ok (mRaise c f a env S) QX ↔ Ok (a env S) fun ds S1 => ∃ d, ds = [d] ∧ QX (.ex c [(f, d)] env) S1 := by
  unfold mRaise; simp only [ok_bind]
  constructor <;> refine fun h => h.mono fun ds S1 q => ?_
  · match ds, q with
    | [], q => exact (ok_none.mp q).elim
    | [d], q => exact ⟨d, rfl, ok_some.mp q⟩
    | _ :: _ :: _, q => exact (ok_none.mp q).elim
  · obtain ⟨d, rfl, q⟩ := q
    exact ok_some.mpr q
def outX : FlX → (Rx → Prop) → Prop
  | .fl (.rt d), Q => Q (.ok d)
  | .fl (.nx _), Q => Q (.ok .non)
  | .ex c fs _, Q => Q (.ex c fs)
  | _, _ => False
theorem outX_rt {d : Dat} {Q : Rx → Prop} : outX (.fl (.rt d)) Q ↔ Q (.ok d) := Iff.rfl
theorem outX_nx {e : DEnv} {Q : Rx → Prop} : outX (.fl (.nx e)) Q ↔ Q (.ok .non) := Iff.rfl
theorem outX_ex {c : Nat} {fs : Exf} {e : DEnv} {Q : Rx → Prop} : outX (.ex c fs e) Q ↔ Q (.ex c fs) := Iff.rfl
theorem w_runX {N : List Str} {n : Nat} {m : MX} {ds : List Dat} : Ok (runX N n m ds S) QR ↔ ds.length = n ∧ Ok (m (initE N ds) S) fun f S1 => outX f fun r => QR r S1 := by
  unfold runX
  split
  · rename_i h
    constructor
    · rintro ⟨a, S1, e, q⟩
      refine ⟨h, ?_⟩
      cases em : m (initE N ds) S with
      | none => rw [em] at e; cases e
      | some x =>
        obtain ⟨f, S2⟩ := x
        rw [em] at e
        refine ok_some.mpr ?_
        cases f with
        | fl f =>
          cases f with
          | rt d => cases e; exact q
          | nx _ => cases e; exact q
          | bk _ => cases e
          | ct _ => cases e
        | ex c fs e' => cases e; exact q
    · rintro ⟨_, f, S1, e, q⟩
      rw [e]
      cases f with
      | fl f =>
        cases f with
        | rt d => exact ok_some.mpr q
        | nx _ => exact ok_some.mpr q
        | bk _ => exact q.elim
        | ct _ => exact q.elim
      | ex c fs e' => exact ok_some.mpr q
  · rename_i h
    rw [ok_none]
    exact ⟨False.elim, fun q => h q.1⟩
def tryK (i : Nat) (sd : Nat → Exf → Option Dat) (QS : Fl → Sm → Prop) : FlX → Sm → Prop
  | .fl f, S => QS f S
  | .ex c fs e, S => i < e.length ∧ Pu (sd c fs) fun d => QS (.rt d) S
theorem tryK_fl {i : Nat} {sd : Nat → Exf → Option Dat} {f : Fl} : tryK i sd QS (.fl f) S ↔ QS f S := Iff.rfl
theorem tryK_ex {i : Nat} {sd : Nat → Exf → Option Dat} {c : Nat} {fs : Exf} {e : DEnv} : tryK i sd QS (.ex c fs e) S ↔ i < e.length ∧ Pu (sd c fs) fun d => QS (.rt d) S := Iff.rfl
theorem w_try {i : Nat} {b : MX} {sd : Nat → Exf → Option Dat} : Ok (mTry i b sd env S) QS ↔ Ok (b env S) (tryK i sd QS) := by
  unfold mTry; simp only [ok_bind]
  constructor <;> refine fun h => h.mono fun f S1 q => ?_ <;> cases f with
  | fl f => first | exact (ok_some (Q := QS)).mp q | exact (ok_some (Q := QS)).mpr q
  | ex c fs e =>
    first
      | (simp only at q
         split at q
         · exact ⟨by assumption, ok_mapP.mp q⟩
         · exact (ok_none.mp q).elim)
      | (simp only
         rw [if_pos q.1]
         exact ok_mapP.mpr q.2)
theorem sdF_1 {c : Nat} {n : Str} {d : Dat} {Q : Dat → Prop} : Pu (sdF c n c [(n, d)]) Q ↔ Q d := by
  unfold sdF
  rw [if_pos rfl, show List.lookup n [(n, d)] = some d from by simp [List.lookup]]
  exact pu_some
theorem sdT_1 {c : Nat} {w n : Str} {d : Dat} {Q : Dat → Prop} : Pu (sdT c w n c [(n, d)]) Q ↔ Q (.tup [.str w, d]) := by
  unfold sdT
  rw [if_pos rfl, show List.lookup n [(n, d)] = some d from by simp [List.lookup]]
  exact pu_some
theorem kNx {e : DEnv} {Q : Fl → Prop} : Pu (some (Fl.nx e)) Q ↔ Q (.nx e) := pu_some
end
/-- the j-th statement of a class's body -/
def clsS (s : Stmt) (j : Nat) : Stmt := match s with
  | .ClassDef _ _ _ body .. => body.getD j (.Pass ⟨0, 0, 0, 0⟩)
  | _ => .Pass ⟨0, 0, 0, 0⟩
end PD
namespace PDH
open PySem PySem.Spec PyProof.Rows L2
/-! ### the head's facts with exception classes -/
def oexB (K : PySem.W.Frag) (C : Addr) : Bool := (match K.lookup C with
  | some ⟨.type "type", _, .cls cd, sl⟩ => (match cd.mro, sl.toList with
    | .ref C' :: bm, [_, _, _, _, some (.builtin n), _] => C' == C && n == "ValueError.__new__" && !cd.hasDel && cd.hasDict && PySem.HandSPX.refsVE bm
    | _, _ => false)
  | _ => false) && (decide (PySem.W.findIn K (.ref C) "__setattr__" = some (some (.builtin "object.__setattr__"))) && (decide (PySem.W.subIn K (.ref C) (.type "BaseException") = some true) && (decide (PySem.W.typeIn K (.ref C) = some (.type "type")) && PySem.W.keepIn K (.ref C))))
theorem oexB_ok {K : PySem.W.Frag} {C : Addr} (h : oexB K C = true) : OexC K C := by
  obtain ⟨q, h⟩ := He.ba h
  obtain ⟨h1, h⟩ := He.ba h
  obtain ⟨h2, h⟩ := He.ba h
  obtain ⟨h3, h4⟩ := He.ba h
  refine ⟨?_, of_decide_eq_true h1, of_decide_eq_true h2, of_decide_eq_true h3, h4⟩
  split at q
  · rename_i dd cd sl ho
    split at q
    · rename_i C' bm k0 k1 k2 k3 n k5 hm hs
      simp only [Bool.and_eq_true, beq_iff_eq, Bool.not_eq_true'] at q
      obtain ⟨⟨⟨⟨rfl, rfl⟩, hdel⟩, hdct⟩, ht⟩ := q
      obtain ⟨nm, bs, mro, ns, qn, hd, sn, sub, ab, col, del⟩ := cd
      dsimp only at hm hdel hdct
      subst hm hdel hdct
      have hsl : sl = #[k0, k1, k2, k3, some (.builtin "ValueError.__new__"), k5] := by
        obtain ⟨l⟩ := sl
        simp only at hs
        rw [hs]
      subst hsl
      exact ⟨nm, qn, ns, bs, bm, sn, sub, ab, col, dd, k0, k1, k2, k3, k5, ho, ht⟩
    · cases q
  · cases q
def xclB (K : PySem.W.Frag) (x f : Str) : Bool := oexB K (He.ga K x) && (decide (PySem.W.findIn K (.ref (He.ga K x)) f = some none) && (decide (PySem.W.findIn K (.ref (He.ga K x)) "__init__" = some (some (.ref (He.ma K (He.ga K x) "__init__")))) &&
  (decide (PySem.W.typeIn K (.ref (He.ma K (He.ga K x) "__init__")) = some (.type "function")) && (PySem.W.keepIn K (.ref (He.ma K (He.ga K x) "__init__")) && (xfB K (He.ga K x) && (He.Fa.glo x).ok K)))))
theorem xcl_ok {K : PySem.W.Frag} {h : Heap} {mg : Str → Option Value} (X : K.In h) (G : h.Ns mainGlobals mg) {x f : Str} (c : xclB K x f = true) : PD.XCls K mg x f (He.ga K x) (He.ma K (He.ga K x) "__init__") ∧ PySem.W.keepIn K (.ref (He.ma K (He.ga K x) "__init__")) = true := by
  obtain ⟨h1, c⟩ := He.ba c
  obtain ⟨h2, c⟩ := He.ba c
  obtain ⟨h3, c⟩ := He.ba c
  obtain ⟨h4, c⟩ := He.ba c
  obtain ⟨h5, c⟩ := He.ba c
  obtain ⟨h6, h7⟩ := He.ba c
  exact ⟨⟨oexB_ok h1, of_decide_eq_true h2, of_decide_eq_true h3, of_decide_eq_true h4, He.glo_ok X G h7, xfB_ok h6⟩, h5⟩
def exmB (K : PySem.W.Frag) (x y : Str) : Bool := decide (PySem.W.exmOne K (.ref (He.ga K x)) (.ref (He.ga K y)) = some true)
def obsB (n : Nat) (fa : List He.Fa) (fn : List He.FnD) (ts : List (Str × List Str)) (ex : PySem.W.Frag → Bool) (g : Addr → Option Obj) : AlT := (He.obsE fa fn (He.frG g (He.asG g n)), tabs ts (He.frG g (He.asG g n)) && ex (He.frG g (He.asG g n)))
def hookB (n : Nat) (fa : List He.Fa) (fn : List He.FnD) (ts : List (Str × List Str)) (ex : PySem.W.Frag → Bool) : PySem.W.Hook where
  α := AlT
  obs := fun s => obsB n fa fn ts ex s.heap.get?
  val := fun _ => (He.valE fn, true)
  says := fun _ h => ∃ K : PySem.W.Frag, K.In h ∧ He.SaysE fa fn K ∧ tabs ts K = true ∧ ex K = true
  of := fun _ _ e => ⟨_, He.frG_in, congrArg Prod.fst e, He.ba (congrArg Prod.snd e)⟩
  keeps := fun _ _ _ ⟨K, hK, c⟩ k => ⟨K, PySem.W.Frag.In.keeps hK k, c⟩
theorem obsB_eq {n : Nat} {fa : List He.Fa} {fn : List He.FnD} {ts : List (Str × List Str)} {ex : PySem.W.Frag → Bool} {g : Addr → Option Obj} {s : Shared} (h : ∀ a, g a = s.heap.get? a) : obsB n fa fn ts ex g = (hookB n fa fn ts ex).obs s := by
  have e : g = s.heap.get? := funext h
  rw [e] <;> rfl
end PDH

namespace PD
open PySem PySem.Spec PyProof.Rows L2
/-! ### any plain data in a module's tuple of texts -/
section
variable {X : Cx}
theorem op_inDT (hu : X.A.units + 65 < cLine) : OpR X (compareOp .In) (fun x y H Q => ∃ d ds, Dp X.K H x d ∧ Dp X.K H y (.tuple ds) ∧ SeqAt.shaped d = true ∧ SeqAt.shaped (.list ds) = true ∧ Q (.bl (xor false (ds.any fun z => PyData.eqv z d))) H) := by
  intro pins s σ H x y v u Q I rx ry h
  obtain ⟨d, ds, hd, he, sd, se, q⟩ := h
  rw [Bool.false_xor] at q
  obtain ⟨as, r1⟩ := Dp.reads I d x v hd rx
  obtain ⟨bs, r2⟩ := Dp.reads I (.tuple ds) y u he ry
  exact SeqAt.in_tuple_reads r2 r1 (SeqAt.canLay_of_shaped se) (SeqAt.canLay_of_shaped sd) (room_in_shaped sd hu) ⟨.bl _, H, I, rfl, q⟩
theorem op_notInDT (hu : X.A.units + 65 < cLine) : OpR X (compareOp .NotIn) (fun x y H Q => ∃ d ds, Dp X.K H x d ∧ Dp X.K H y (.tuple ds) ∧ SeqAt.shaped d = true ∧ SeqAt.shaped (.list ds) = true ∧ Q (.bl (xor true (ds.any fun z => PyData.eqv z d))) H) := by
  intro pins s σ H x y v u Q I rx ry h
  obtain ⟨d, ds, hd, he, sd, se, q⟩ := h
  rw [Bool.true_xor] at q
  obtain ⟨as, r1⟩ := Dp.reads I d x v hd rx
  obtain ⟨bs, r2⟩ := Dp.reads I (.tuple ds) y u he ry
  exact SeqAt.notIn_tuple_reads r2 r1 (SeqAt.canLay_of_shaped se) (SeqAt.canLay_of_shaped sd) (room_in_shaped sd hu) ⟨.bl _, H, I, rfl, q⟩
end
def rInX (K : PySem.W.Frag) (neg : Bool) : R2 := rOr (rIn K neg) (fun x y H Q => ∃ d ds, Dp K H x d ∧ Dp K H y (.tuple ds) ∧ SeqAt.shaped d = true ∧ SeqAt.shaped (.list ds) = true ∧ Q (.bl (xor neg (ds.any fun z => PyData.eqv z d))) H)
def gInX (neg : Bool) (xs : List Str) (d : Dat) : Option Dat := if d.flat = true then some (.bl (xor neg ((xs.map Dat.str).any fun y => eqF y d))) else match toPy d with
  | some p => if (SeqAt.shaped p && SeqAt.shaped (.list (xs.map .str))) = true then some (.bl (xor neg ((xs.map PyData.str).any fun z => PyData.eqv z p))) else none
  | none => none
def mInX (neg : Bool) (xs : List Str) (a : M) : M := fun env S => (a env S).bind fun x => (gInX neg xs x.1).map fun z => (z, x.2)
theorem dpAll_strs {K : PySem.W.Frag} {H : Hp} : ∀ xs : List Str, DpAll K H (xs.map V.str) (xs.map PyData.str)
  | [] => .nil
  | x :: xs => .cons (.str x) (dpAll_strs xs)
theorem se_inX {K : PySem.W.Frag} {a : Addr} {xs : List Str} {ta : TE} {ma : M} (neg : Bool) (hq : ∀ H, SqT K H a (xs.map V.str)) (ha : SB ta ma) : SE (tOp (rInX K neg) ta (tC (.ref a))) (mInX neg xs ma) := by
  intro O P σ H env S w Q I e q
  unfold mInX at e
  cases ea : ma env S with
  | none => rw [ea] at e; cases e
  | some x =>
    rw [ea] at e
    simp only [Option.bind_some] at e
    unfold gInX at e
    by_cases h : x.1.flat = true
    · rw [if_pos h] at e
      cases e
      refine ha O P σ H env S x _ I ea fun v H1 f1 s1 r1 => ?_
      have rx := r1.rep_flat h
      have fin : ∀ b : Bool, (if neg = true then !b else b) = xor neg b := fun b => by cases neg <;> cases b <;> rfl
      refine .inl ⟨a, xs.map V.str, rfl, .inr (hq H1), rx.flat h, strs_flat xs, ?_⟩
      rw [fin, strs_in rx h]
      exact q _ H1 f1 s1 (.bl _)
    · rw [if_neg h] at e
      cases ep : toPy x.1 with
      | none => simp only [ep] at e; cases e
      | some p =>
        simp only [ep] at e
        split at e
        · rename_i hs
          rw [Bool.and_eq_true] at hs
          cases e
          refine ha O P σ H env S x _ I ea fun v H1 f1 s1 r1 => ?_
          exact .inr ⟨p, xs.map .str, r1.dp ep, .tup (hq H1) (dpAll_strs xs), hs.1, hs.2, q _ H1 f1 s1 (.bl _)⟩
        · cases e
section
variable {X : Cx} {pos p2 : Pos} {a : Expr} {ta : TE} {ma : M} {x : Str} {xs : List Str} {k : Nat}
theorem pd_inX {K : PySem.W.Frag} (hK : X.K = K) (hr : Room k X.A) (h : GTup K X.mg x xs) (ha : PDB X a ta ma) (hg : Gl X x := by rfl) (hd : (x == ("__debug__" : Str)) = false := by decide) :
    PDE X (.Compare a [.In] [.Name x p2] pos) (tOp (rInX K false) ta (tC (.ref (He.ga K x)))) (mInX false xs ma) := by
  subst hK
  exact ⟨pe_cmpR (OpR.or op_in_seq (op_inDT (hu65 hr))) ha.pe (pe_gtup h.1 hg hd) rfl, se_inX false h.2 ha.sem⟩
theorem pd_notinX {K : PySem.W.Frag} (hK : X.K = K) (hr : Room k X.A) (h : GTup K X.mg x xs) (ha : PDB X a ta ma) (hg : Gl X x := by rfl) (hd : (x == ("__debug__" : Str)) = false := by decide) :
    PDE X (.Compare a [.NotIn] [.Name x p2] pos) (tOp (rInX K true) ta (tC (.ref (He.ga K x)))) (mInX true xs ma) := by
  subst hK
  exact ⟨pe_cmpR (OpR.or op_notIn_seq (op_notInDT (hu65 hr))) ha.pe (pe_gtup h.1 hg hd) rfl, se_inX true h.2 ha.sem⟩
theorem pt_inX {K : PySem.W.Frag} (hK : X.K = K) (hr : Room k X.A) (h : GTup K X.mg x xs) (ha : PDB X a ta ma) (hg : Gl X x := by rfl) (hd : (x == ("__debug__" : Str)) = false := by decide) :
    PDT X (.Compare a [.In] [.Name x p2] pos) (tTest (tOp (rInX K false) ta (tC (.ref (He.ga K x))))) (mTest (mInX false xs ma)) := by
  subst hK
  exact ⟨pt_cmpR (OpR.or op_in_seq (op_inDT (hu65 hr))) ha.pe (pe_gtup h.1 hg hd) rfl, st_test (se_inX false h.2 ha.sem)⟩
theorem pt_notinX {K : PySem.W.Frag} (hK : X.K = K) (hr : Room k X.A) (h : GTup K X.mg x xs) (ha : PDB X a ta ma) (hg : Gl X x := by rfl) (hd : (x == ("__debug__" : Str)) = false := by decide) :
    PDT X (.Compare a [.NotIn] [.Name x p2] pos) (tTest (tOp (rInX K true) ta (tC (.ref (He.ga K x))))) (mTest (mInX true xs ma)) := by
  subst hK
  exact ⟨pt_cmpR (OpR.or op_notIn_seq (op_notInDT (hu65 hr))) ha.pe (pe_gtup h.1 hg hd) rfl, st_test (se_inX true h.2 ha.sem)⟩
end
theorem w_inX {neg : Bool} {xs : List Str} {a : M} {env : DEnv} {S : Sm} {Q : Dat → Sm → Prop} : Ok (mInX neg xs a env S) Q ↔ Ok (a env S) fun d S1 => Pu (gInX neg xs d) fun z => Q z S1 := by
  unfold mInX
  simp only [ok_bind, ok_mapP]
theorem gInX_str {neg : Bool} {xs : List Str} {y : Str} {Q : Dat → Prop} : Pu (gInX neg xs (.str y)) Q ↔ Q (.bl (xor neg (decide (y ∈ xs)))) := gInG_str
/-- what is no text stands in no tuple of texts -/
theorem gInX_no {neg : Bool} {xs : List Str} {d : Dat} {Q : Dat → Prop} (hs : ∀ y, d ≠ .str y) (hp : d.flat = true ∨ ∃ p, toPy d = some p ∧ SeqAt.shaped p = true) (hx : ∀ x ∈ xs, SmS x) : Pu (gInX neg xs d) Q ↔ Q (.bl neg) := by
  have e : gInX neg xs d = some (.bl neg) := by
    unfold gInX
    by_cases h : d.flat = true
    · rw [if_pos h]
      have : ((xs.map Dat.str).any fun y => eqF y d) = false := by
        rw [List.any_map, List.any_eq_false]
        intro y _
        cases d <;> first | exact (hs _ rfl).elim | exact Bool.false_ne_true
      rw [this, Bool.xor_false]
    · rw [if_neg h]
      rcases hp with hp | ⟨p, ep, sp⟩
      · exact (h hp).elim
      · rw [ep]
        simp only [sp, shaped_strs hx, Bool.and_self, if_true]
        have np : ∀ y, p ≠ .str y := fun y q => by
          subst q
          cases d with
          | str z => exact hs z rfl
          | non => cases ep
          | bl _ => cases ep
          | int _ => cases ep
          | tup ds =>
            have : (match toPyL ds with | some xs => some (PyData.tuple xs) | none => none) = some (PyData.str y) := ep
            cases h : toPyL ds with
            | none => rw [h] at this; cases this
            | some _ => rw [h] at this; cases this
          | lst ds =>
            have : (match toPyL ds with | some xs => some (PyData.list xs) | none => none) = some (PyData.str y) := ep
            cases h : toPyL ds with
            | none => rw [h] at this; cases this
            | some _ => rw [h] at this; cases this
          | dk _ => cases ep
          | dt _ => cases ep
          | ob _ _ => cases ep
          | strm => cases ep
        have : ((xs.map PyData.str).any fun z => PyData.eqv z p) = false := by
          rw [List.any_map, List.any_eq_false]
          intro y _
          cases p <;> first | exact (np _ rfl).elim | exact Bool.false_ne_true
        rw [this, Bool.xor_false]
  rw [e, pu_some]
end PD

namespace PD
open PySem PySem.Spec PyProof.Rows L2
/-! ### isinstance of a caught exception of an own class, with a field -/
def rIsX (K : PySem.W.Frag) (a : Addr) (cls : Value) (d : Option Addr) : List V → Hp → VK → Prop := fun xs H Q => ∃ (C dd : Addr) (fs : List (Str × V)) (c : V) (cv : Value) (b : Bool), cls = .ref C ∧ ExcC K C ∧ d = some dd ∧ H dd = some (.xd fs) ∧ xs = [.ref a, c] ∧ (∀ u, RelV c u → u = cv) ∧ PySem.W.kitOne K (.ref C) cv = some b ∧ Q (.bl b) H
theorem call_isX {X : Cx} {a : Addr} {oe : Obj} {cls : Value} {d : Option Addr} {pn : List (Addr × Obj)} (hz : Zc cls d oe) (hf : ∃ vs, oe.data = .fields vs) : CallR (X.suite a ((a, oe) :: pn)) (.builtin "isinstance") (rIsX X.K a cls d) := by
  intro pins s σ H xs us Q I r h
  obtain ⟨C, dd, fs, c, cv, b, rfl, T, rfl, hd, rfl, hcv, e, q⟩ := h
  obtain ⟨u, u2, rfl, ru, ru2⟩ := vals2 r
  obtain rfl : u = Value.ref a := ru
  obtain rfl := hcv _ ru2
  obtain ⟨ha, _⟩ := I.pin (a, oe) (List.mem_append_left _ List.mem_cons_self)
  obtain ⟨vs, hv⟩ := hf
  have hx : ObjOk X.prog X.w H s.heap dd (.xd fs) := I.hok dd _ hd
  obtain ⟨mA, hns, _⟩ := hx
  obtain ⟨od, ho, _⟩ := lookIn_ns hns
  have J : PySem.W.InstAt s.heap a oe C (some od) := ⟨ha, hz.1, by unfold PySem.W.notCls; rw [hv] <;> rfl, by rw [hz.2]; exact ho⟩
  have cl : (PySem.W.clsIn X.K C).isSome = true := by
    obtain ⟨cd, hc, _⟩ := PySem.W.any_some T.hd
    rw [hc]; rfl
  exact PySem.W.kia_one (PySem.W.kitx_exc cl T.hg T.hk T.hs T.ha T.hn T.ht T.hm) I.kIn J e (fun z => nomatch z) fun tk => ⟨.bl b, H, I.tok _, rfl, q⟩
/-- isinstance(e, C) as a test -/
def tI (K : PySem.W.Frag) (a : Addr) (cls : Value) (d : Option Addr) (i : Nat) (v : V) : TT := fun σ H Q => tCB (rIsX K a cls d) (tCons (tVar i) (tCons (tC v) tNil)) σ H fun x H' => ∃ k, TruV K x H' k ∧ Q k H'
theorem pt_isX {X : Cx} {a : Addr} {oe : Obj} {cls : Value} {d : Option Addr} {pn : List (Addr × Obj)} {i : Nat} {v : V} {n m : Str} {p p1 p2 pos : Pos} (hz : Zc cls d oe) (hf : ∃ vs, oe.data = .fields vs) (he : PE (X.suite a ((a, oe) :: pn)) (.Name n p1) (tVar i)) (hc : PE (X.suite a ((a, oe) :: pn)) (.Name m p2) (tC v))
    (hg : Gl (X.suite a ((a, oe) :: pn)) "isinstance") (hm : X.mg "isinstance" = none) (hv : bootBuiltins "isinstance" = some (.builtin "isinstance"))
    (hs : starEach (.Name n p1 :: [.Name m p2]) X.env = (false, eval (.Name n p1) X.env) :: starEach [.Name m p2] X.env := by rfl) (hpl : (backTo pos (starEach [.Name m p2] X.env)).any (·.1) = false := by rfl) :
    PT (X.suite a ((a, oe) :: pn)) (.Call (.Name "isinstance" p) [.Name n p1, .Name m p2] [] pos) (tI X.K a cls d i v) :=
  pt_truth (pe_callB (call_isX hz hf) hg hm hv (pa_cons he (pa_cons hc pa_nil) hs) (by decide) (by decide) hs hpl) fun _ => rfl
theorem ti_ok {Cl : Nat → Addr} {K : PySem.W.Frag} {O : Addr → Prop} {ps : Addr} {H : Hp} {c : Nat} {fs : Exf} {dd a : Addr} {i : Nat} {σ : L2.St} {v : V} {cv : Value} {Q : Bool → Hp → Prop} (T : ExcC K (Cl c)) (r : ∀ u, RelV v u → u = cv) (k : PySem.W.kitOne K (.ref (Cl c)) cv = some true) (rf : RepF O ps H dd fs) (hi : i < σ.length) (q : Q true H) :
    tI K a (.ref (Cl c)) (some dd) i v (σ.set i (some (.ref a))) H Q := by
  obtain ⟨vs, h1, _⟩ := rf
  exact ⟨.ref a, List.getElem?_set_self hi, Cl c, dd, _, v, cv, true, rfl, T, rfl, h1, rfl, r, k, true, rfl, q⟩
/-- if isinstance(e, C1) and isinstance(e, C2): a suite that returns; and more behind it, never reached -/
theorem su_and {Cl : Nat → Addr} {K : PySem.W.Frag} {cv : Value} {i c0 : Nat} {ts : Addr → Value → Option Addr → TS} {sd : Nat → Exf → Option Dat} {v1 v2 : V} {u1 u2 : Value} {t : Addr → Value → Option Addr → TS} (h : SSu Cl K cv i ts sd) (hs : ∀ c fs d, sd c fs = some d → c = c0) (T : ExcC K (Cl c0))
    (k1 : PySem.W.kitOne K (.ref (Cl c0)) u1 = some true) (k2 : PySem.W.kitOne K (.ref (Cl c0)) u2 = some true) (r1 : ∀ u, RelV v1 u → u = u1 := by intro _ z; exact z) (r2 : ∀ u, RelV v2 u → u = u2 := by intro _ z; exact z) :
    SSu Cl K cv i (fun a cls d => tSeq (tIfS (tAnd (tI K a cls d i v1) (tI K a cls d i v2)) (ts a cls d) tNext) (t a cls d)) sd := by
  intro O P H σ S c fs d dd D o dom sm rf hi es q
  obtain rfl := hs c fs d es
  refine ⟨(h O P H σ S c fs d dd D o dom sm rf hi es q).1, fun a na => ?_⟩
  obtain ⟨_, e2⟩ := h O P H σ S c fs d dd { D with nx := fun σ' H' => t a (.ref (Cl c)) (some dd) D σ' H' } o dom sm rf hi es q
  refine ti_ok (Cl := Cl) T r1 k1 rf hi ?_
  show tI K a (.ref (Cl c)) (some dd) i v2 _ H _
  exact ti_ok (Cl := Cl) T r2 k2 rf hi (e2 a na)
theorem sdF_c {c0 : Nat} {n : Str} : ∀ c fs d, sdF c0 n c fs = some d → c = c0 := fun c fs d e => by
  unfold sdF at e
  split at e
  · assumption
  · cases e
theorem sdT_c {c0 : Nat} {w n : Str} : ∀ c fs d, sdT c0 w n c fs = some d → c = c0 := fun c fs d e => by
  unfold sdT at e
  split at e
  · assumption
  · cases e
/-- return e.f if isinstance(e, C1) and isinstance(e, C2) else x -/
theorem su_ife {Cl : Nat → Addr} {K : PySem.W.Frag} {cv : Value} {i c0 : Nat} {n : Str} {v1 v2 : V} {u1 u2 : Value} {t : TE} (ex : PySem.W.exmOne K (.ref (Cl c0)) cv = some true) (T : ExcC K (Cl c0))
    (k1 : PySem.W.kitOne K (.ref (Cl c0)) u1 = some true) (k2 : PySem.W.kitOne K (.ref (Cl c0)) u2 = some true) (r1 : ∀ u, RelV v1 u → u = u1 := by intro _ z; exact z) (r2 : ∀ u, RelV v2 u → u = u2 := by intro _ z; exact z) :
    SSu Cl K cv i (fun a cls d => tRet (tIf (tAnd (tI K a cls d i v1) (tI K a cls d i v2)) (tXf a cls d (Cl c0) n (tVar i)) t)) (sdF c0 n) := by
  intro O P H σ S c fs d dd D o dom sm rf hi es q
  obtain ⟨e1, e2⟩ := su_f (Cl := Cl) (K := K) (cv := cv) (i := i) (c0 := c0) (n := n) ex O P H σ S c fs d dd D o dom sm rf hi es q
  obtain rfl := sdF_c c fs d es
  refine ⟨e1, fun a na => ?_⟩
  refine ti_ok (Cl := Cl) T r1 k1 rf hi ?_
  show tI K a (.ref (Cl c)) (some dd) i v2 _ H _
  exact ti_ok (Cl := Cl) T r2 k2 rf hi (e2 a na)
/-! return f(..)[k], f may raise -/
def mCallO (φ : PhiX) (g : Dat → Dat → Option Dat) (a : ML) (mb : M) : MX := fun env S => (a env S).bind fun r => (φ r.1 r.2).bind fun q => match q with
  | (.ok d, S') => (mb env S').bind fun y => (g d y.1).map fun z => (.fl (.rt z), y.2)
  | (.ex c fs, S') => some (.ex c fs env, S')
theorem sx_retO {Cl : Nat → Addr} {W : WX} {φ : PhiX} {ta : TA} {a : ML} {r : R2} {g : Dat → Dat → Option Dat} {tb : TE} {mb : M} (hr : R2S r g) (h : SA ta a) (hb : SB tb mb) : SX Cl W (tRet (tOp r (tCallS (GoodX Cl φ) (WE W) ta) tb)) (mCallO φ g a mb) := by
  intro F σ H env S out D I e p
  unfold mCallO at e
  cases ea : a env S with
  | none => rw [ea] at e; cases e
  | some x =>
    rw [ea] at e
    simp only [Option.bind_some] at e
    cases ew : φ x.1 x.2 with
    | none => rw [ew] at e; cases e
    | some w =>
      rw [ew] at e
      simp only [Option.bind_some] at e
      refine h _ F.P σ H env S x _ I.ei ea fun vs H' f s rs => ?_
      have I1 := I.fr f s
      refine ⟨_, F.P, x.1, x.2, w, I1.ei.hi, rs, ew, ?_⟩
      obtain ⟨r', S'⟩ := w
      cases r' with
      | ok d =>
        refine fun v H2 f2 s2 rv => ?_
        have I2 := I1.fr f2 s2
        simp only at e
        cases eb : mb env S' with
        | none => rw [eb] at e; cases e
        | some y =>
          rw [eb] at e
          simp only [Option.bind_some] at e
          cases eg : g d y.1 with
          | none => rw [eg] at e; cases e
          | some z =>
            rw [eg] at e
            cases e
            refine hb _ F.P σ H2 env S' y _ I2.ei eb fun v2 H3 f3 s3 r2 => ?_
            have I3 := I2.fr f3 s3
            have rb : RepB (ownS F.O0 σ env) F.P H2 v d := .inl rv
            exact hr _ F.P H3 y.2 v v2 d y.1 z _ I3.ei.hi (rb.fr f3 I2.ei.ops) r2 eg fun u H4 f4 s4 rz => p u H4 (I.frm.trans (((f.trans f2).trans f3).trans f4)) s4 (rz.tr o0_tr)
      | ex c fs =>
        cases e
        exact fun dd H2 f2 s2 rf => p σ H2 dd (I1.fr f2 s2) rf.o0
theorem px_retIx {Cl : Nat → Addr} {X : Cx} {W : WX} {φ : PhiX} {k : Nat} {f : Addr} {fd : FuncData} {ps : List Str} {x : Str} {p pos pos' pos2 : Pos} {e b : Expr} {es : List Expr} {ta : TA} {ml : ML} {tb : TE} {mb : M} (F : FnOk X.prog X.w X.K X.mg X.base (L2.CX X.prog X.w) k f fd ps (GoodX Cl φ)) (hr : Room k X.A) (hg : Gl X x) (hm : X.mg x = some (.ref f)) (hk : PySem.W.keepIn X.K (.ref f) = true) (hbd : Binds X.K fd ps [])
    (ha : PDA X (e :: es) ta ml) (hb : PDB X b tb mb) (hdb : (x == ("__debug__" : Str)) = false := by decide) (he : starEach (e :: es) X.env = (false, eval e X.env) :: starEach es X.env := by rfl) (hpl : (backTo pos (starEach es X.env)).any (·.1) = false := by rfl) (hs : PlainIx b := by exact fun _ _ => rfl) :
    PXS Cl X W (.Return (some (.Subscript (.Call (.Name x p) (e :: es) [] pos) b pos2)) pos') (tRet (tOp (rOr (rIx X.K) rDGet) (tCallS (GoodX Cl φ) (WE W) ta) tb)) (mCallO φ gIxA ml mb) :=
  ⟨fun tk => ps_ret (pe_ix (ix_seq.or (ix_dict (hu1 hr))) (pe_callS F hr hg hm hk hbd (fun σ => passAt tk σ) ha.pa hdb he hpl) hb.pe hs), sx_retO (r2_ix.or r2_dget) ha.sem hb.sem⟩
/-! a for loop whose body may raise -/
def forGoX (b : MG) (body : MX) : List Dat → MX
  | [], env, S => some (.fl (.nx env), S)
  | d :: ds, env, S => (b d env).bind fun env1 => (body env1 S).bind fun r => match r with
    | (.fl (.nx e), S') => forGoX b body ds e S'
    | (.fl (.ct e), S') => forGoX b body ds e S'
    | (.fl (.bk e), S') => some (.fl (.nx e), S')
    | (.fl (.rt d), S') => some (.fl (.rt d), S')
    | (.ex c fs e, S') => some (.ex c fs e, S')
def mForX (mi : ML) (b : MG) (body : MX) : MX := fun env S => (mi env S).bind fun r => forGoX b body r.1 env r.2
theorem sx_for {Cl : Nat → Addr} {W : WX} {wi : TI} {g : TG} {tb : TS} {mi : ML} {ix : List Nat} {b : MG} {body : MX} (hi : SF wi mi) (hg : SG g ix b) (hb : SX Cl W tb body) : SX Cl W (tFor wi g tb) (mForX mi b body) := by
  intro F σ H env S out D I e p
  unfold mForX at e
  cases ei : mi env S with
  | none => rw [ei] at e; cases e
  | some it =>
    rw [ei] at e
    simp only [Option.bind_some] at e
    refine hi _ F.P σ H env S it _ I.ei ei fun J H1 f1 s1 ok => ?_
    have I1 := I.fr f1 s1
    have p1 := p.back (f1.tr I.ei.ops)
    refine ⟨fun i k σ' H' => ∃ env' S', k = it.1.length - i ∧ i ≤ it.1.length ∧ SInv F σ' H' env' S' ∧ Tr (ownS F.O0 σ env) H1 (ownS F.O0 σ' env') H' ∧ forGoX b body (it.1.drop i) env' S' = some out,
      ⟨_, env, it.2, rfl, Nat.zero_le _, I1, .refl, by rw [List.drop_zero]; exact e⟩, ?_⟩
    rintro i k σ' H' ⟨env', S', rfl, hil, I', t', go⟩
    have lt' : Lt2 (ownS F.O0 σ env) H1 (ownS F.O0 σ' env') H' := ⟨t', I'.ei.dom⟩
    by_cases hlt : i < it.1.length
    · have hd : it.1[i]? = some it.1[i] := List.getElem?_eq_getElem hlt
      rw [List.drop_eq_getElem_cons hlt] at go
      unfold forGoX at go
      refine .inr ⟨ok.go _ H' i lt' hlt, fun σ2 H2 => ∃ k', k' < it.1.length - i ∧ ∃ env2 S2, k' = it.1.length - (i + 1) ∧ i + 1 ≤ it.1.length ∧ SInv F σ2 H2 env2 S2 ∧ Tr (ownS F.O0 σ env) H1 (ownS F.O0 σ2 env2) H2 ∧ forGoX b body (it.1.drop (i + 1)) env2 S2 = some out,
        fun _ _ h => h, fun x H2 hy => ?_⟩
      obtain ⟨sm2, rx⟩ := ok.yld _ H' i x H2 _ lt' hd hy
      have f2 : Fr F.P H' H2 := fun a o _ h => sm2 a o h
      have s2 : StrmAt F.P H2 S' := ⟨sm2 _ _ I'.ei.sm.1, sm2 _ _ I'.ei.sm.2⟩
      have I2 := I'.fr f2 s2
      cases eb : b it.1[i] env' with
      | none => rw [eb] at go; cases go
      | some env1 =>
        rw [eb] at go
        simp only [Option.bind_some] at go
        refine hg _ F.P σ' H2 env' env1 S' x _ _ I2.ei rx eb fun σ1 J1 st => ?_
        obtain ⟨I3, t3⟩ := I2.sets J1 st
        have t03 := (t'.trans (f2.tr I'.ei.ops)).trans t3
        cases ec : body env1 S' with
        | none => rw [ec] at go; cases go
        | some r =>
          rw [ec] at go
          simp only [Option.bind_some] at go
          refine hb F σ1 H2 env1 S' r _ I3 ec ?_
          obtain ⟨fl, S3⟩ := r
          cases fl with
          | ex c fs e3 =>
            cases go
            exact p1
          | fl fl =>
            cases fl with
            | nx e3 => exact fun σ3 H3 I4 t4 => ⟨_, Nat.sub_lt_sub_left hlt (Nat.lt_succ_self i), e3, S3, rfl, hlt, I4, t03.trans t4, go⟩
            | ct e3 => exact fun σ3 H3 I4 t4 => ⟨_, Nat.sub_lt_sub_left hlt (Nat.lt_succ_self i), e3, S3, rfl, hlt, I4, t03.trans t4, go⟩
            | bk e3 =>
              cases go
              exact fun σ3 H3 I4 t4 => p1 σ3 H3 I4 (t03.trans t4)
            | rt d =>
              cases go
              exact p1
    · rw [List.drop_of_length_le (by omega)] at go
      unfold forGoX at go
      cases go
      have hi' : i = it.1.length := by omega
      exact .inl ⟨hi' ▸ ok.stop _ H' lt', p1 σ' H' I' t'⟩
theorem px_for {Cl : Nat → Addr} {X : Cx} {W : WX} {tg iter : Expr} {body : List Stmt} {wi : TI} {g : TG} {tb : TS} {mi : ML} {ix : List Nat} {b : MG} {mb : MX} {pos : Pos} (hp : PassesOwn (model X.prog X.w) X.A X.env X.xe) (hc : X.calm = true) (hi : PDF X tg iter wi mi) (hg : PDG X tg g ix b) (hb : PXSs Cl X W body tb mb)
    (hs : ∀ x, foldedSetIterable iter X.env x = pure x := by intro _; rfl) : PXS Cl X W (.For tg iter body [] pos) (tFor wi g tb) (mForX mi b mb) := ⟨fun tk => ps_for hp hc hi.pi hg.pg (hb.ps tk) hs, sx_for hi.sem hg.sem hb.sem⟩
/-! rewriting for these -/
section
variable {env : DEnv} {S : Sm} {QX : FlX → Sm → Prop}
def coK (g : Dat → Dat → Option Dat) (mb : M) (env : DEnv) (QX : FlX → Sm → Prop) : Rx → Sm → Prop
  | .ok d, S => Ok (mb env S) fun y S1 => Pu (g d y) fun z => QX (.fl (.rt z)) S1
  | .ex c fs, S => QX (.ex c fs env) S
theorem coK_ok {g : Dat → Dat → Option Dat} {mb : M} {d : Dat} : coK g mb env QX (.ok d) S ↔ Ok (mb env S) fun y S1 => Pu (g d y) fun z => QX (.fl (.rt z)) S1 := Iff.rfl
theorem coK_ex {g : Dat → Dat → Option Dat} {mb : M} {c : Nat} {fs : Exf} : coK g mb env QX (.ex c fs) S ↔ QX (.ex c fs env) S := Iff.rfl
theorem w_callO {φ : PhiX} {g : Dat → Dat → Option Dat} {a : ML} {mb : M} : Ok (mCallO φ g a mb env S) QX ↔ Ok (a env S) fun ds S1 => Ok (φ ds S1) (coK g mb env QX) := by
  unfold mCallO; simp only [ok_bind]
  constructor <;> refine fun h => h.mono fun ds S1 q => q.mono fun r S2 q => ?_ <;> cases r with
  | ok d =>
    simp only [ok_bind] at q ⊢
    first
      | exact q.mono fun y S3 q => ok_mapP.mp q
      | exact q.mono fun y S3 q => ok_mapP.mpr q
  | ex c fs => first | exact (ok_some (Q := QX)).mp q | exact (ok_some (Q := QX)).mpr q
theorem w_forX {mi : ML} {b : MG} {body : MX} : Ok (mForX mi b body env S) QX ↔ Ok (mi env S) fun ds S1 => Ok (forGoX b body ds env S1) QX := by unfold mForX; simp only [ok_bind]
def loopX (J : DEnv → Sm → Prop) (QX : FlX → Sm → Prop) : FlX → Sm → Prop
  | .fl (.nx e), S => J e S
  | .fl (.ct e), S => J e S
  | .fl (.bk e), S => QX (.fl (.nx e)) S
  | .fl (.rt d), S => QX (.fl (.rt d)) S
  | .ex c fs e, S => QX (.ex c fs e) S
theorem loopX_nx {J : DEnv → Sm → Prop} {e : DEnv} : loopX J QX (.fl (.nx e)) S ↔ J e S := Iff.rfl
theorem loopX_ct {J : DEnv → Sm → Prop} {e : DEnv} : loopX J QX (.fl (.ct e)) S ↔ J e S := Iff.rfl
theorem loopX_bk {J : DEnv → Sm → Prop} {e : DEnv} : loopX J QX (.fl (.bk e)) S ↔ QX (.fl (.nx e)) S := Iff.rfl
theorem loopX_rt {J : DEnv → Sm → Prop} {d : Dat} : loopX J QX (.fl (.rt d)) S ↔ QX (.fl (.rt d)) S := Iff.rfl
theorem loopX_ex {J : DEnv → Sm → Prop} {c : Nat} {fs : Exf} {e : DEnv} : loopX J QX (.ex c fs e) S ↔ QX (.ex c fs e) S := Iff.rfl
theorem ok_forGoX {b : MG} {body : MX} (J : List Dat → DEnv → Sm → Prop) (hd : ∀ d ds env S, J (d :: ds) env S → Pu (b d env) fun env1 => Ok (body env1 S) (loopX (J ds) QX)) (h0 : ∀ env S, J [] env S → QX (.fl (.nx env)) S) :
    ∀ ds env S, J ds env S → Ok (forGoX b body ds env S) QX
  | [], env, S, j => ok_some.mpr (h0 env S j)
  | d :: ds, env, S, j => by
    obtain ⟨env1, h1, f, S1, h2, q⟩ := hd d ds env S j
    unfold forGoX
    rw [h1, Option.bind_some, h2, Option.bind_some]
    cases f with
    | ex c fs e => exact ok_some.mpr q
    | fl f =>
      cases f with
      | nx e => exact ok_forGoX J hd h0 ds e S1 q
      | ct e => exact ok_forGoX J hd h0 ds e S1 q
      | bk e => exact ok_some.mpr q
      | rt d => exact ok_some.mpr q
end
end PD
namespace PDH
open PySem PySem.Spec PyProof.Rows L2
def excB (K : PySem.W.Frag) (x : Str) : Bool := decide (PySem.W.findIn K (.ref (He.ga K x)) "__getattribute__" = some (some (.builtin "BaseException.__getattribute__"))) && (decide (PySem.W.findIn K (.ref (He.ga K x)) "__getattr__" = some none) && (decide (PySem.W.subIn K (.ref (He.ga K x)) (.type "BaseException") = some true) &&
  (PySem.W.hasDictIn K (He.ga K x) && (decide (PySem.W.findIn K (.ref (He.ga K x)) "__class__" = some (some (.builtin "object.__class__"))) && (decide (PySem.W.specialIn K (.builtin "object.__class__") "__get__" = some (some (.builtin "getset_descriptor.__get__"))) &&
  (decide (PySem.W.takesIn K (.builtin "object.__class__") = some true) && decide (PySem.W.mroIn K (He.ga K x) (.type "object") = some true)))))))
theorem exc_ok {K : PySem.W.Frag} {x : Str} (c : excB K x = true) : ExcC K (He.ga K x) := by
  obtain ⟨h1, c⟩ := He.ba c
  obtain ⟨h2, c⟩ := He.ba c
  obtain ⟨h3, c⟩ := He.ba c
  obtain ⟨h4, c⟩ := He.ba c
  obtain ⟨h5, c⟩ := He.ba c
  obtain ⟨h6, c⟩ := He.ba c
  obtain ⟨h7, h8⟩ := He.ba c
  exact ⟨of_decide_eq_true h1, of_decide_eq_true h2, of_decide_eq_true h3, h4, of_decide_eq_true h5, of_decide_eq_true h6, of_decide_eq_true h7, of_decide_eq_true h8⟩
def kitB (K : PySem.W.Frag) (x : Str) (c : Value) : Bool := decide (PySem.W.kitOne K (.ref (He.ga K x)) c = some true)
end PDH

namespace PD
open PySem PySem.Spec PyProof.Rows L2
/-! ### an object of an own class whose __init__ raises -/
section
variable {X : Cx} {CX : CXT} {k : Nat} {f C : Addr} {fd : FuncData} {ps : List Str} {sp : Sp} {dvs : List V} {ds : List Value} {E : L2.St → XK} {x m : Str} {p pos apos : Pos} {e o : Expr} {es : List Expr} {ta : TE} {t : TA}
theorem run_makeS {pins : List (Addr × Obj)} {σ : L2.St} {H : Hp} {s : Shared} {Q : VK} {us : List Value} {vs : List V} (M : Mk X.K C f) (F : FnOk X.prog X.w X.K X.mg X.base CX k f fd ps sp) (hr : Room (k + 1) X.A) (hb : Binds X.K fd ps ds) (hd : Vals dvs ds)
    (hx : PassesAt CX X σ (E σ)) (I : Inv X pins σ H s) (r : Vals vs us)
    (h : ∀ x dx, H x = none → H dx = none → dx ≠ x → sp (.ref x :: (vs ++ dvs)) (upd (upd H dx (.own x)) x (.ins C dx [])) (fun v H2 => v = .non ∧ Q (.ref x) H2) (E σ)) :
    wpAny (model X.prog X.w) X.A (call (.ref C) us) (EP X pins σ Q) X.xe s := by
  have hq := h (s.heap.objs.size + 1) s.heap.objs.size (I.hok.fresh (Nat.le_succ _)) (I.hok.fresh (Nat.le_refl _)) (Nat.ne_of_lt (Nat.lt_succ_self _))
  have I2 := Inv.made (C := C) I
  have r2 : Vals (V.ref (s.heap.objs.size + 1) :: (vs ++ dvs)) (Value.ref (s.heap.objs.size + 1) :: (us ++ ds)) := .cons rfl (r.append hd)
  have hl : (Value.ref (s.heap.objs.size + 1) :: us ++ ds).length = ps.length := by
    have e := r2.length
    rw [F.len _ _ _ _ hq] at e
    exact e.symm
  refine wpAny_call (make_map (f := f) I.kIn M.makes M.init (beq_iff_eq.mp M.fn) (codeAny_mono (F.run _ X.stack _ _ ⟨Value.ref (s.heap.objs.size + 1) :: us, []⟩ (Value.ref (s.heap.objs.size + 1) :: (us ++ ds)) _ _ (E σ) (hr.make C us [])
    (I2.env0.make C us []) (hb _ (Value.ref (s.heap.objs.size + 1) :: us) I2.kIn hl) r2 hq) fun r s' hq' => ?_))
  cases r with
  | error e => exact hx pins _ _ e s' I2 hq'
  | ok fl =>
    cases fl with
    | ret u =>
      obtain ⟨v, H', I3, rv, ev, q3⟩ := I2.after hq'
      subst ev
      exact ⟨rv, ⟨V.ref (s.heap.objs.size + 1), H', I3, rfl, q3⟩⟩
    | next => exact False.elim hq'
    | brk => exact False.elim hq'
    | cont => exact False.elim hq'
def tMakeS (C : Addr) (sp : Sp) (E : L2.St → XK) (t : TA) : TE := fun σ H Q => t σ H fun vs H1 => ∀ x dx, H1 x = none → H1 dx = none → dx ≠ x → sp (.ref x :: (vs ++ [])) (upd (upd H1 dx (.own x)) x (.ins C dx [])) (fun v H2 => v = .non ∧ Q (.ref x) H2) (E σ)
theorem pe_makeS (M : Mk X.K C f) (F : FnOk X.prog X.w X.K X.mg X.base CX k f fd ps sp) (hr : Room (k + 1) X.A) (hg : Gl X x) (hm : X.mg x = some (.ref C)) (hb : Binds X.K fd ps []) (hx : ∀ σ, PassesAt CX X σ (E σ))
    (ha : PA X (e :: es) t) (hdb : (x == ("__debug__" : Str)) = false := by decide) (he : starEach (e :: es) X.env = (false, eval e X.env) :: starEach es X.env := by rfl) (hpl : (backTo pos (starEach es X.env)).any (·.1) = false := by rfl) :
    PE X (.Call (.Name x p) (e :: es) [] pos) (tMakeS C sp E t) := by
  refine ⟨fun pins s σ H Q I h => ?_⟩
  refine wpAny_Call_Name_kw (ld_glob I hg hm ?_ hdb)
  refine PySem.W.callWith_K (h₀ := X.base) I.ok.mod.kin M.kp (thn (ha.run pos pins s σ H _ I h) fun us s1 ⟨vs, H1, I1, r, q⟩ => ⟨I1.kIn, ?_⟩) he hpl
  exact run_makeS M F hr hb .nil (hx σ) I1 r q
end
/-- __init__ of an object that is not told of: it raises -/
def InitX (Cl : Nat → Addr) (φ : PhiX) : Sp := fun vs H _ E => ∃ (O : Addr → Prop) (P : Fix) (a : V) (us : List V) (ds : List Dat) (S : Sm) (c : Nat) (fs : Exf) (S' : Sm), vs = a :: us ∧ HI O P H S ∧ RepL O P.ps H us ds ∧ φ ds S = some (.ex c fs, S') ∧
  ∀ dd H', Fr P H H' → StrmAt P H' S' → RepF O P.ps H' dd fs → E (.ref (Cl c)) (some dd) H'
def initS (N : List Str) (ds : List Dat) : DEnv := .no :: (ds.map .fz ++ List.replicate (N.length - (ds.length + 1)) .no)
theorem start_invS {O : Addr → Prop} {P : Fix} {H : Hp} {S : Sm} {N : List Str} {a : V} {vs : List V} {ds : List Dat} (I : HI O P H S) (r : RepL O P.ps H vs ds) : SInv ⟨P, O, H⟩ (L2.start N (a :: vs)) H (initS N ds) S := by
  have J := start_inv (N := N) (vs := .non :: vs) (ds := .non :: ds) I (.cons .non r)
  have noOw : ∀ (i : Nat) d, (initS N ds)[i]? = some (.ow d) → False := fun i d h => by
    cases i with
    | zero => cases h
    | succ i =>
      have h : (ds.map Slo.fz ++ List.replicate (N.length - (ds.length + 1)) .no)[i]? = some (.ow d) := h
      by_cases hi : i < ds.length
      · rw [List.getElem?_append_left (by simpa using hi), List.getElem?_map] at h
        cases q : ds[i]? with
        | none => rw [q] at h; cases h
        | some x => rw [q] at h; cases h
      · rw [List.getElem?_append_right (by simpa using hi), List.getElem?_replicate] at h
        split at h <;> cases h
  have eO : ∀ b, ownS O (L2.start N (a :: vs)) (initS N ds) b ↔ O b := fun b => ⟨fun z => z.elim id fun ⟨i, d, h, _⟩ => (noOw i d h).elim, .inl⟩
  have t : Tr O H (ownS O (L2.start N (a :: vs)) (initS N ds)) H := .of fun b u na e => ⟨fun z => na ((eO b).mp z), e⟩
  refine ⟨⟨.inl I.ops, fun z => I.nq ((eO _).mp z), fun b z => I.dom b ((eO b).mp z), I.sm, ?_, fun i d h => ?_, fun i d h => (noOw i d h).elim⟩, .refl, fun i d p h => (noOw i d h).elim, fun i j d e p h => (noOw i d h).elim, I.dom, I.ops⟩
  · have := J.ei.len
    unfold L2.start initE at this
    unfold L2.start initS
    simpa using this
  · cases i with
    | zero => cases h
    | succ i =>
      have h2 : (initE N (.non :: ds))[i + 1]? = some (.fz d) := by
        unfold initE
        exact h
      obtain ⟨v, h3, h4⟩ := J.ei.fz (i + 1) d h2
      refine ⟨v, h3, h4.tr ?_⟩
      exact (Tr.of fun b u na e => ⟨fun z => na (.inl ((eO b).mp z)), e⟩)
def runI (N : List Str) (n : Nat) (m : MX) : PhiX := fun ds S => if ds.length + 1 = n then match m (initS N ds) S with
  | some (.ex c fs _, S') => some (.ex c fs, S')
  | _ => none else none
theorem fn_initX {Cl : Nat → Addr} {P : Program} {w : World} {K : PySem.W.Frag} {mg : Str → Option Value} {base : Heap} {x qual : Str} {st : Stmt} {f : Addr} {fd : FuncData} {N ps : List Str} {k : Nat} {m : MX} (F : Fun K x qual st f fd) (S : FnScope N ps (defScope st))
    (hb : ∀ (cdv : Value) (A : Around) (outer : List Env) (s : Shared) (H : Hp) (E : XK), Room k (A.deeper (envOfC qual (defScope st) s.heap.objs.size f cdv)) → ∃ t, PXSs Cl (cxOf (L2.CX P w) P w K mg base N qual (defScope st) f cdv A outer s H E) (fun cls d _ H => E cls d H) (defBody st) t m) :
    FnOk P w K mg base (L2.CX P w) (k + 1) f fd ps (InitX Cl (runI N ps.length m)) := by
  refine F.okX S (fun vs H Q E h => ?_) fun cdv A outer s H vs Q E hr h => ?_
  · obtain ⟨O, P', a, us, ds, S', c, fs, S2, rfl, _, rl, e, _⟩ := h
    unfold runI at e
    split at e
    · rw [List.length_cons, rl.len]; assumption
    · cases e
  · obtain ⟨O, P', a, us, ds, S', c, fs, S2, rfl, I, rl, e, q⟩ := h
    obtain ⟨t, ht⟩ := hb cdv A outer s H E hr
    refine ⟨t, ht.ps (takes_of rfl rfl rfl rfl), ?_⟩
    unfold runI at e
    split at e
    · cases em : m (initS N ds) S' with
      | none => rw [em] at e; cases e
      | some out =>
        rw [em] at e
        refine ht.sem ⟨P', O, H⟩ _ H _ S' out _ (start_invS I rl) em ?_
        obtain ⟨fl, S3⟩ := out
        cases fl with
        | fl fl => cases e
        | ex c fs env => cases e; exact fun σ' H' dd J rf => q dd H' J.frm J.ei.sm rf
    · cases e
/-- what is not told of -/
def mStop : MX := fun _ _ => none
theorem pxs_stop {Cl : Nat → Addr} {X : Cx} {W : WX} {ss : List Stmt} {t : TS} (h : Takes X W → PSs X ss t) : PXSs Cl X W ss t mStop := ⟨h, fun F σ H env S out D I e => by cases e⟩
def mMakeX (φ : PhiX) (a : ML) : MX := fun env S => (a env S).bind fun r => match φ r.1 r.2 with
  | some (.ex c fs, S') => some (.ex c fs env, S')
  | _ => none
theorem sx_retMake {Cl : Nat → Addr} {W : WX} {φ : PhiX} {C : Addr} {ta : TA} {a : ML} (h : SA ta a) : SX Cl W (tRet (tMakeS C (InitX Cl φ) (WE W) ta)) (mMakeX φ a) := by
  intro F σ H env S out D I e p
  unfold mMakeX at e
  cases ea : a env S with
  | none => rw [ea] at e; cases e
  | some x =>
    rw [ea] at e
    simp only [Option.bind_some] at e
    cases ew : φ x.1 x.2 with
    | none => rw [ew] at e; cases e
    | some w =>
      rw [ew] at e
      obtain ⟨r, S'⟩ := w
      cases r with
      | ok d => cases e
      | ex c fs =>
        cases e
        refine h _ F.P σ H env S x _ I.ei ea fun vs H' f s rs => fun ob dx n1 n2 ne => ?_
        have fr : Fr F.P H' (upd (upd H' dx (.own ob)) ob (.ins C dx [])) := Fr.trans (.new n2) (.new (by rw [upd_ne ne.symm]; exact n1))
        have s2 : StrmAt F.P (upd (upd H' dx (.own ob)) ob (.ins C dx [])) x.2 := (s.new n2).new (by rw [upd_ne ne.symm]; exact n1)
        have I1 := (I.fr f s).fr fr s2
        refine ⟨_, F.P, .ref ob, vs, x.1, x.2, c, fs, S', by rw [List.append_nil], I1.ei.hi, ?_, ew, ?_⟩
        · exact rs.tr (fr.tr I.ei.ops)
        · exact fun dd H2 f2 s2 rf => p σ H2 dd (I1.fr f2 s2) rf.o0
section
variable {Cl : Nat → Addr} {X : Cx} {W : WX} {φ : PhiX} {k : Nat} {f C : Addr} {fd : FuncData} {ps : List Str} {x : Str} {p pos pos' : Pos} {e : Expr} {es : List Expr} {ta : TA} {ml : ML}
theorem px_retMake (M : Mk X.K C f) (F : FnOk X.prog X.w X.K X.mg X.base (L2.CX X.prog X.w) k f fd ps (InitX Cl φ)) (hr : Room (k + 1) X.A) (hg : Gl X x) (hm : X.mg x = some (.ref C)) (hb : Binds X.K fd ps [])
    (ha : PDA X (e :: es) ta ml) (hdb : (x == ("__debug__" : Str)) = false := by decide) (he : starEach (e :: es) X.env = (false, eval e X.env) :: starEach es X.env := by rfl) (hpl : (backTo pos (starEach es X.env)).any (·.1) = false := by rfl) :
    PXS Cl X W (.Return (some (.Call (.Name x p) (e :: es) [] pos)) pos') (tRet (tMakeS C (InitX Cl φ) (WE W) ta)) (mMakeX φ ml) := ⟨fun tk => ps_ret (pe_makeS M F hr hg hm hb (fun σ => passAt tk σ) ha.pa hdb he hpl), sx_retMake ha.sem⟩
end
section
variable {env : DEnv} {S : Sm} {QX : FlX → Sm → Prop} {QR : Rx → Sm → Prop}
def exR (env : DEnv) (QX : FlX → Sm → Prop) : Rx → Sm → Prop
  | .ex c fs, S => QX (.ex c fs env) S
  | .ok _, _ => False
theorem exR_ex {c : Nat} {fs : Exf} : exR env QX (.ex c fs) S ↔ QX (.ex c fs env) S := Iff.rfl
theorem w_makeX {φ : PhiX} {a : ML} : Ok (mMakeX φ a env S) QX ↔ Ok (a env S) fun ds S1 => Ok (φ ds S1) (exR env QX) := by
  unfold mMakeX
  simp only [ok_bind]
  constructor <;> refine fun h => h.mono fun ds S1 q => ?_
  · obtain ⟨f, S2, e, q⟩ := q
    cases ep : φ ds S1 with
    | none => rw [ep] at e; cases e
    | some r =>
      obtain ⟨r, S3⟩ := r
      rw [ep] at e
      cases r with
      | ok d => cases e
      | ex c fs => cases e; exact ⟨_, _, rfl, q⟩
  · obtain ⟨r, S2, e, q⟩ := q
    rw [e]
    cases r with
    | ok d => exact q.elim
    | ex c fs => exact ⟨_, _, rfl, q⟩
def exF (QR : Rx → Sm → Prop) : FlX → Sm → Prop
  | .ex c fs _, S => QR (.ex c fs) S
  | .fl _, _ => False
theorem exF_ex {c : Nat} {fs : Exf} {e : DEnv} : exF QR (.ex c fs e) S ↔ QR (.ex c fs) S := Iff.rfl
theorem w_runI {N : List Str} {n : Nat} {m : MX} {ds : List Dat} : Ok (runI N n m ds S) QR ↔ ds.length + 1 = n ∧ Ok (m (initS N ds) S) (exF QR) := by
  unfold runI
  split
  · rename_i h
    constructor
    · rintro ⟨r, S1, e, q⟩
      refine ⟨h, ?_⟩
      cases em : m (initS N ds) S with
      | none => rw [em] at e; cases e
      | some x =>
        obtain ⟨f, S2⟩ := x
        rw [em] at e
        cases f with
        | fl f => cases e
        | ex c fs env => cases e; exact ⟨_, _, rfl, q⟩
    · rintro ⟨_, f, S1, e, q⟩
      rw [e]
      cases f with
      | fl f => exact q.elim
      | ex c fs env => exact ⟨_, _, rfl, q⟩
  · rename_i h
    exact ⟨fun q => (ok_none.mp q).elim, fun q => (h q.1).elim⟩
end
/-- a class of instances, made by its __init__ -/
structure MCls (K : PySem.W.Frag) (mg : Str → Option Value) (x : Str) (C fI : Addr) : Prop where
  mak : Mk K C fI
  gC : mg x = some (.ref C)
end PD
namespace PDH
open PySem PySem.Spec PyProof.Rows L2
def mkB (K : PySem.W.Frag) (x : Str) : Bool := PySem.W.makesIn K (He.ga K x) && (decide (PySem.W.findIn K (.ref (He.ga K x)) "__init__" = some (some (.ref (He.ma K (He.ga K x) "__init__")))) && (PySem.W.isFn K (.ref (He.ma K (He.ga K x) "__init__")) &&
  (PySem.W.keepIn K (.ref (He.ga K x)) && (PySem.W.keepIn K (.ref (He.ma K (He.ga K x) "__init__")) && (He.Fa.glo x).ok K))))
theorem mk_ok {K : PySem.W.Frag} {h : Heap} {mg : Str → Option Value} (X : K.In h) (G : h.Ns mainGlobals mg) {x : Str} (c : mkB K x = true) : PD.MCls K mg x (He.ga K x) (He.ma K (He.ga K x) "__init__") ∧ PySem.W.keepIn K (.ref (He.ma K (He.ga K x) "__init__")) = true := by
  obtain ⟨h1, c⟩ := He.ba c
  obtain ⟨h2, c⟩ := He.ba c
  obtain ⟨h3, c⟩ := He.ba c
  obtain ⟨h4, c⟩ := He.ba c
  obtain ⟨h5, h6⟩ := He.ba c
  exact ⟨⟨⟨h1, of_decide_eq_true h2, h3, h4⟩, He.glo_ok X G h6⟩, h5⟩
end PDH

namespace PD
open PySem PySem.Spec PyProof.Rows L2
/-! ### tuple(range(a, b)) -/
def tTupRF (te : L2.St → Hp → (Int → Int → Hp → Prop) → Prop) : TE := fun σ H Q => te σ H fun a b H1 => RgOk a b ∧ ∀ (q : Addr) (ob : Obj), H1 q = none → ob.dict = none → Q (.ref q) (upd H1 q (.frz ob (.tup (rgV a b))))
theorem pe_tupRF {X : Cx} {e : Expr} {te : L2.St → Hp → (Int → Int → Hp → Prop) → Prop} {p pos : Pos} (hc : X.calm = true) (hg : Gl X "tuple") (hm : X.mg "tuple" = none) (he : PRg X e te) (na : starEach [e] X.env = (false, eval e X.env) :: starEach [] X.env := by rfl) : PE X (.Call (.Name "tuple" p) [e] [] pos) (tTupRF te) := by
  refine ⟨fun pins s σ H Q I h => ?_⟩
  refine Call_ (ld_blt I hg hm boot_tuple (PyProof.Rows.callWith_type1 (args_cons (thn (he pins s σ H _ I h) fun x s1 ⟨r, a, b, t, u, v, H1, ex, hr, I1, ok, q⟩ => args_nil ?_) na) na))
  subst ex
  obtain ⟨b1, b2, b3, b4, b5⟩ := ok
  refine call_tuple_range (n := (b - a).toNat) (I1.ok.hd hc) hr (small_one b1 b2 b3 b4) (rangeSize_nat a b) b5 fun h' tk acc hk hi => ?_
  have I2 : Inv X pins σ H1 { s1 with heap := h' } := I1.kept (t' := s1.toks) hk
  have e : acc.toList.toArray = acc := Array.toArray_toList
  have := laid_tupF (tk := tk) (its := acc.toList) I2 (vals_rg hi) (by rw [rgV_length, sizeLine_eq]; omega) q
  rw [e] at this
  exact this
def mTupRg (ma mb : M) : M := fun env S => (ma env S).bind fun x => (mb env x.2).bind fun y => match x.1, y.1 with
  | .int i, .int j => if (decide (0 ≤ i) && (decide (i ≤ 1000) && (decide (0 ≤ j) && decide (j ≤ 1000)))) = true then some (.tup (rngD i (j - i).toNat), y.2) else none
  | _, _ => none
theorem repL_rg {O : Addr → Prop} {ps : Addr} {H : Hp} (i : Int) (n : Nat) : RepL O ps H ((List.range n).map fun k : Nat => V.int (i + (k : Int))) (rngD i n) := by
  unfold rngD
  generalize List.range n = l
  induction l with
  | nil => exact .nil
  | cons k l ih => exact .cons (.int _) ih
theorem se_tupRg {ta tb : TE} {ma mb : M} (ha : SB ta ma) (hb : SB tb mb) : SE (tTupRF (tRg2 ta tb)) (mTupRg ma mb) := by
  intro O P σ H env S w Q I e q
  unfold mTupRg at e
  cases ea : ma env S with
  | none => rw [ea] at e; cases e
  | some xa =>
    rw [ea] at e
    simp only [Option.bind_some] at e
    cases eb : mb env xa.2 with
    | none => rw [eb] at e; cases e
    | some xb =>
      rw [eb] at e
      simp only [Option.bind_some] at e
      split at e
      · rename_i i j h1 h2
        split at e
        · rename_i hz
          cases e
          simp only [Bool.and_eq_true, decide_eq_true_eq] at hz
          refine ha O P σ H env S xa _ I ea fun v1 H1 f1 s1 r1 => ?_
          have I1 := I.fr f1 s1
          refine hb O P σ H1 env xa.2 xb _ I1 eb fun v2 H2 f2 s2 r2 => ?_
          have I2 := I1.fr f2 s2
          rw [h1] at r1
          rw [h2] at r2
          obtain rfl := r1.int
          obtain rfl := r2.int
          refine ⟨i, j, rfl, rfl, ⟨by omega, by omega, by omega, by omega, by omega⟩, fun p ob n d => q _ _ ((f1.trans f2).trans (.new n)) (s2.new n) (.tup (.new d) (not_own I2.hi n) (by rw [rgV_length, sizeLine_eq]; omega) (repL_new (repL_rg i _) n))⟩
        · cases e
      · cases e
theorem pd_tupRg {X : Cx} {a b : Expr} {ta tb : TE} {ma mb : M} {p p2 pos pos2 : Pos} (hc : X.calm = true) (hg : Gl X "tuple") (hm : X.mg "tuple" = none) (hg2 : Gl X "range") (hm2 : X.mg "range" = none) (ha : PDB X a ta ma) (hb : PDB X b tb mb)
    (na : starEach [a, b] X.env = (false, eval a X.env) :: starEach [b] X.env := by rfl) (nb : starEach [b] X.env = (false, eval b X.env) :: starEach [] X.env := by rfl) (hp : (backTo pos2 (starEach [b] X.env)).any (·.1) = false := by rfl)
    (nc : starEach [(.Call (.Name "range" p2) [a, b] [] pos2 : Expr)] X.env = (false, eval (.Call (.Name "range" p2) [a, b] [] pos2) X.env) :: starEach [] X.env := by rfl) :
    PDE X (.Call (.Name "tuple" p) [.Call (.Name "range" p2) [a, b] [] pos2] [] pos) (tTupRF (tRg2 ta tb)) (mTupRg ma mb) := ⟨pe_tupRF hc hg hm (prg_2 hg2 hm2 ha.pe hb.pe na nb hp) nc, se_tupRg ha.sem hb.sem⟩
theorem w_tupRg {ma mb : M} {env : DEnv} {S : Sm} {Q : Dat → Sm → Prop} : Ok (mTupRg ma mb env S) Q ↔ Ok (ma env S) fun x S1 => Ok (mb env S1) fun y S2 => ∃ i j : Int, x = .int i ∧ y = .int j ∧ (0 ≤ i ∧ i ≤ 1000 ∧ 0 ≤ j ∧ j ≤ 1000) ∧ Q (.tup (rngD i (j - i).toNat)) S2 := by
  unfold mTupRg
  simp only [ok_bind]
  constructor <;> refine fun h => h.mono fun x S1 q => q.mono fun y S2 q => ?_
  · split at q
    · split at q
      · rename_i hz
        simp only [Bool.and_eq_true, decide_eq_true_eq] at hz
        exact ⟨_, _, rfl, rfl, hz, ok_some.mp q⟩
      · exact (ok_none.mp q).elim
    · exact (ok_none.mp q).elim
  · obtain ⟨i, j, rfl, rfl, hz, q⟩ := q
    simp only
    rw [if_pos (by simp only [Bool.and_eq_true, decide_eq_true_eq]; exact hz)]
    exact ok_some.mpr q
end PD

namespace PD
open PySem PySem.Spec PyProof.Rows L2
/-! ### a call with an owned argument that returns a tuple of plain things -/
def Dat.flat1 : Dat → Bool
  | .tup ds => ds.all Dat.flat
  | d => d.flat
def mCallB1 (φ : Phi) (a : ML) : M := fun env S => (a env S).bind fun r => (φ r.1 r.2).bind fun w => if w.1.flat1 = true then some w else none
theorem RepL.flatO {O O' : Addr → Prop} {ps : Addr} {H : Hp} : ∀ {vs : List V} {ds : List Dat}, RepL O ps H vs ds → ds.all Dat.flat = true → RepL O' ps H vs ds
  | _, _, .nil, _ => .nil
  | _, _, .cons r l, h => by
    rw [List.all_cons, Bool.and_eq_true] at h
    exact .cons (r.flatO h.1) (RepL.flatO l h.2)
theorem Rep.flat1O {O O' : Addr → Prop} {ps : Addr} {H : Hp} {v : V} {d : Dat} (r : Rep O ps H v d) (h : d.flat1 = true) (na : ∀ a vs, TupAt H a vs → ¬ O a → ¬ O' a) : Rep O' ps H v d := by
  cases r with
  | tup ta no le l => exact .tup ta (na _ _ ta no) le (l.flatO h)
  | non => exact .non
  | bl b => exact .bl b
  | int i => exact .int i
  | str x hx => exact .str x hx
  | lst _ _ _ _ => exact Bool.noConfusion (show false = true from h)
  | dk _ _ _ _ => exact Bool.noConfusion (show false = true from h)
  | dt _ _ _ _ => exact Bool.noConfusion (show false = true from h)
  | ob _ _ _ => exact Bool.noConfusion (show false = true from h)
  | strm => exact Bool.noConfusion (show false = true from h)
theorem RepBL.own {O : Addr → Prop} {P : Fix} {H : Hp} {a : Addr} (o : O a) (n : a ≠ P.ps) : ∀ {vs : List V} {ds : List Dat}, RepBL O P H vs ds → V.ref a ∈ vs → ∃ d, Own O P.ps H a d
  | _, _, .nil, m => by cases m
  | _, _, .cons r l, m => by
    rcases List.mem_cons.mp m with rfl | m
    · rcases r with r | ⟨p, e, h1, h2, h3⟩
      · cases r with
        | tup _ no _ _ => exact (no o).elim
        | lst _ no _ _ => exact (no o).elim
        | dk _ no _ _ => exact (no o).elim
        | dt _ no _ _ => exact (no o).elim
        | ob _ no _ => exact (no o).elim
        | strm => exact (n rfl).elim
      · cases e
        exact ⟨_, h3⟩
    · exact RepBL.own o n l m
theorem Own.notTup {O : Addr → Prop} {ps p : Addr} {H : Hp} {d : Dat} (h : Own O ps H p d) {vs : List V} (t : TupAt H p vs) : False := by
  obtain ⟨ob, _, e⟩ := t
  cases d with
  | lst ds => obtain ⟨us, e2, _⟩ := h; rw [e] at e2; cases e2
  | dk ds => obtain ⟨us, e2, _⟩ := h; rw [e] at e2; cases e2
  | dt ds => obtain ⟨o, us, e2, _⟩ := h; rw [e] at e2; cases e2
  | ob c fs => obtain ⟨dx, us, e2, _⟩ := h; rw [e] at e2; cases e2
  | _ => exact h.elim
theorem se_callB1 {φ : Phi} {t : TA} {a : ML} {E : XK} (h : SAB t a) : SE (tCall (Good φ) [] E t) (mCallB1 φ a) := by
  intro O P σ H env S r Q I e q
  unfold mCallB1 at e
  cases ea : a env S with
  | none => rw [ea] at e; cases e
  | some x =>
    rw [ea] at e
    simp only [Option.bind_some] at e
    cases ew : φ x.1 x.2 with
    | none => rw [ew] at e; cases e
    | some w =>
      rw [ew] at e
      simp only [Option.bind_some] at e
      split at e
      · rename_i hf
        cases e
        refine h O P σ H env S x _ I ea fun vs H' f s rs => ?_
        rw [List.append_nil]
        have I1 := (I.fr f s).hi
        refine ⟨fun a => a = P.ps ∨ (O a ∧ V.ref a ∉ vs), P, x.1, x.2, r, ⟨.inl rfl, fun z => z.elim (fun z => I.nq (z ▸ I.ops)) fun z => I.nq z.1, fun a z => z.elim (fun z => I1.dom a (z ▸ I.ops)) fun z => I1.dom a z.1, s⟩, rs.free I.ops vs fun _ z => z, ew, fun v H2 f2 s2 rv => q v H2 (f.trans f2) s2 (rv.flat1O hf fun b us ta no ob => ?_)⟩
        have nb : b ≠ P.ps := fun z => no (.inl z)
        have mb : V.ref b ∈ vs := Classical.byContradiction fun z => no (.inr ⟨ob, z⟩)
        obtain ⟨d, od⟩ := rs.own ob nb mb
        exact (od.mono (f2.tr I.ops) fun u hu => f2 b u nb hu).notTup ta
      · cases e
section
variable {X : Cx} {φ : Phi} {k : Nat} {f : Addr} {fd : FuncData} {ps : List Str} {x : Str} {p pos : Pos} {e : Expr} {es : List Expr} {t : TA} {ml : ML}
theorem pd_callB1 (F : FnOk X.prog X.w X.K X.mg X.base CX0 k f fd ps (Good φ)) (hr : Room k X.A) (hg : Gl X x) (hm : X.mg x = some (.ref f)) (hk : PySem.W.keepIn X.K (.ref f) = true) (hb : Binds X.K fd ps [])
    (ha : PDAB X (e :: es) t ml) (hdb : (x == ("__debug__" : Str)) = false := by decide) (he : starEach (e :: es) X.env = (false, eval e X.env) :: starEach es X.env := by rfl) (hpl : (backTo pos (starEach es X.env)).any (·.1) = false := by rfl) :
    PDE X (.Call (.Name x p) (e :: es) [] pos) (tCall (Good φ) [] E0 t) (mCallB1 φ ml) := ⟨pe_call F hr hg hm hk hb .nil pass0 ha.pa hdb he hpl, se_callB1 ha.sem⟩
end
theorem w_callB1 {φ : Phi} {a : ML} {env : DEnv} {S : Sm} {Q : Dat → Sm → Prop} : Ok (mCallB1 φ a env S) Q ↔ Ok (a env S) fun ds S1 => Ok (φ ds S1) fun d S2 => d.flat1 = true ∧ Q d S2 := by
  unfold mCallB1; simp only [ok_bind]
  constructor <;> refine fun h => h.mono fun x S1 q => q.mono fun y S2 q => ?_
  · split at q
    · rename_i hz
      exact ⟨hz, ok_some.mp q⟩
    · exact (ok_none.mp q).elim
  · rw [if_pos q.1]
    exact ok_some.mpr q.2
end PD

namespace PD
open PySem PySem.Spec PyProof.Rows L2
/-! ### an attribute as one target among others -/
def gFld (K : PySem.W.Frag) (ta : TE) (f : Str) : TG := fun v σ H Q => ta σ H fun x H1 => ∃ a C dx fs, x = .ref a ∧ H1 a = some (.ins C dx fs) ∧ Cls K C ∧ NoAttr K C f ∧ fs.length < 1000 ∧ Q σ (upd H1 a (.ins C dx (putF f v fs)))
theorem pg_fld {X : Cx} {o : Expr} {f : Str} {pos' : Pos} {ta : TE} (ha : PE X o ta) : PG X (.Attribute o f pos') (gFld X.K ta f) := by
  refine ⟨fun pins s σ H v u Q I r h => ?_⟩
  rw [PySem.assign_Attribute]
  refine wpAny_bind (wpAny_holding (thn (ha.run pins s σ H _ I h) fun ov s1 ⟨x, H1, I1, rx, a, C, dx, fs, ex, ea, c, n, l, q⟩ => ?_))
  subst ex
  obtain rfl : ov = Value.ref a := rx
  refine wpAny_bind (wpAny_standAt ?_)
  refine wpAny_bind (wpAny_holding (setattr_ok I1 ea c n l r fun s2 I2 => ?_))
  exact wpAny_release ⟨σ, _, I2, q⟩
/-! ### fields by name -/
def putFD (f : Str) (d : Dat) : List (Str × Dat) → List (Str × Dat)
  | [] => [(f, d)]
  | (g, x) :: r => if g = f then (g, d) :: r else (g, x) :: putFD f d r
theorem zip_put {O : Addr → Prop} {ps : Addr} {H : Hp} {f : Str} {v : V} {d : Dat} (r : Rep O ps H v d) : ∀ {fs : List (Str × Dat)} {vs : List V}, RepL O ps H vs (fs.map (·.2)) →
    ∃ ws, putF f v ((fs.map (·.1)).zip vs) = ((putFD f d fs).map (·.1)).zip ws ∧ RepL O ps H ws ((putFD f d fs).map (·.2))
  | [], _, .nil => ⟨[v], rfl, .cons r .nil⟩
  | (g, x) :: fs, w :: vs, .cons rx l => by
    by_cases e : g = f
    · refine ⟨v :: vs, ?_, ?_⟩
      · show (if g = f then (g, v) :: (fs.map (·.1)).zip vs else _) = _
        unfold putFD
        rw [if_pos e, if_pos e]
        rfl
      · unfold putFD
        rw [if_pos e]
        exact .cons r l
    · obtain ⟨ws, e1, l1⟩ := zip_put r l
      refine ⟨w :: ws, ?_, ?_⟩
      · show (if g = f then _ else (g, w) :: putF f v ((fs.map (·.1)).zip vs)) = _
        unfold putFD
        rw [if_neg e, if_neg e, e1]
        rfl
      · unfold putFD
        rw [if_neg e]
        exact .cons rx l1
theorem zip_look {O : Addr → Prop} {ps : Addr} {H : Hp} {f : Str} {d : Dat} : ∀ {fs : List (Str × Dat)} {vs : List V}, RepL O ps H vs (fs.map (·.2)) → fs.lookup f = some d → ∃ v, ((fs.map (·.1)).zip vs).lookup f = some v ∧ Rep O ps H v d
  | [], _, .nil, h => by cases h
  | (g, x) :: fs, w :: vs, .cons rx l, h => by
    rw [List.map_cons, List.zip_cons_cons, List.lookup_cons]
    rw [List.lookup_cons] at h
    cases e : f == g with
    | true => rw [e] at h; cases h; exact ⟨w, rfl, rx⟩
    | false => rw [e] at h; exact zip_look l h
theorem zip_none {O : Addr → Prop} {ps : Addr} {H : Hp} {f : Str} : ∀ {fs : List (Str × Dat)} {vs : List V}, RepL O ps H vs (fs.map (·.2)) → fs.lookup f = none → ((fs.map (·.1)).zip vs).lookup f = none
  | [], _, .nil, _ => rfl
  | (g, x) :: fs, w :: vs, .cons rx l, h => by
    rw [List.map_cons, List.zip_cons_cons, List.lookup_cons]
    rw [List.lookup_cons] at h
    cases e : f == g with
    | true => rw [e] at h; cases h
    | false => rw [e] at h; exact zip_none l h
theorem zip_len {fs : List (Str × Dat)} {vs : List V} : ((fs.map (·.1)).zip vs).length ≤ fs.length := by
  rw [List.length_zip, List.length_map]
  exact Nat.min_le_left _ _
/-- a value put where the same one stands -/
theorem putF_same {f : Str} {v : V} : ∀ {fs : List (Str × V)}, fs.lookup f = some v → putF f v fs = fs
  | [], h => by cases h
  | (g, x) :: fs, h => by
    show (if g = f then (g, v) :: fs else (g, x) :: putF f v fs) = _
    rw [List.lookup_cons] at h
    cases e : f == g with
    | true => rw [e] at h; cases h; rw [if_pos (eq_of_beq e).symm]
    | false =>
      rw [e] at h
      rw [if_neg (fun z => by rw [z, beq_self_eq_true] at e; cases e), putF_same h]
/-- all is kept but the stream and the object at a -/
def FrA (P : Fix) (a : Addr) (H H' : Hp) : Prop := ∀ b o, b ≠ P.ps → b ≠ a → H b = some o → H' b = some o
theorem FrA.refl {P : Fix} {a : Addr} {H : Hp} : FrA P a H H := fun _ _ _ _ h => h
theorem FrA.trans {P : Fix} {a : Addr} {H H1 H2 : Hp} (x : FrA P a H H1) (y : FrA P a H1 H2) : FrA P a H H2 := fun b o n m h => y b o n m (x b o n m h)
theorem Fr.a {P : Fix} {a : Addr} {H H' : Hp} (f : Fr P H H') : FrA P a H H' := fun b o n _ h => f b o n h
theorem FrA.upd {P : Fix} {a : Addr} {H : Hp} {o : HO} : FrA P a H (upd H a o) := fun b u _ n h => by rw [upd_ne n]; exact h
theorem FrA.tr {P : Fix} {a : Addr} {H H' : Hp} {O : Addr → Prop} (f : FrA P a H H') (o : O P.ps) (oa : O a) : Tr O H O H' := .of fun b u nb h => ⟨nb, f b u (fun e => nb (e ▸ o)) (fun e => nb (e ▸ oa)) h⟩
/-! ### what a class must be -/
structure OCls (K : PySem.W.Frag) (C : Addr) (fl : List Str) : Prop where
  cls : Cls K C
  no : ∀ f ∈ fl, NoAttr K C f
/-! ### self.f -/
def obAt (C : Addr) (env : DEnv) (i : Nat) : Option (List (Str × Dat)) := match env[i]? with
  | some (.ow (.ob c fs)) => if c = C then some fs else none
  | some (.fz (.ob c fs)) => if c = C then some fs else none
  | _ => none
theorem obAt_ok {C : Addr} {env : DEnv} {i : Nat} {fs : List (Str × Dat)} (h : obAt C env i = some fs) : env[i]? = some (.ow (.ob C fs)) ∨ env[i]? = some (.fz (.ob C fs)) := by
  unfold obAt at h
  split at h
  · rename_i c fs' e
    split at h
    · rename_i ec
      cases h
      rw [← ec]
      exact .inl e
    · cases h
  · rename_i c fs' e
    split at h
    · rename_i ec
      cases h
      rw [← ec]
      exact .inr e
    · cases h
  · cases h
/-- where the object of a slot stands -/
theorem EI.obj {O : Addr → Prop} {P : Fix} {σ : L2.St} {H : Hp} {env : DEnv} {S : Sm} {C : Addr} {i : Nat} {fs : List (Str × Dat)} (I : EI O P σ H env S) (h : obAt C env i = some fs) :
    ∃ a dx vs, σ[i]? = some (some (.ref a)) ∧ H a = some (.ins C dx ((fs.map (·.1)).zip vs)) ∧ RepL O P.ps H vs (fs.map (·.2)) := by
  rcases obAt_ok h with e | e
  · obtain ⟨p, h1, h2, h3, h4⟩ := I.ow i _ e
    obtain ⟨dx, vs, k1, k2⟩ := h4
    exact ⟨p, dx, vs, h1, k1, k2⟩
  · obtain ⟨v, h1, h2⟩ := I.fz i _ e
    cases h2 with
    | ob k1 k2 k3 => exact ⟨_, _, _, h1, k1, k3⟩
def mFldC (C : Addr) (i : Nat) (f : Str) : M := fun env S => (obAt C env i).bind fun fs => (fs.lookup f).map fun d => (d, S)
theorem se_fld {K : PySem.W.Frag} {C : Addr} {i : Nat} {f : Str} {fl : List Str} (c : OCls K C fl) (hf : f ∈ fl) : SE (tFld K (tVar i) f) (mFldC C i f) := by
  intro O P σ H env S r Q I e q
  unfold mFldC at e
  cases eo : obAt C env i with
  | none => rw [eo] at e; cases e
  | some fs =>
    rw [eo] at e
    simp only [Option.bind_some] at e
    cases el : fs.lookup f with
    | none => rw [el] at e; cases e
    | some d =>
      rw [el] at e
      cases e
      obtain ⟨a, dx, vs, h1, h2, h3⟩ := I.obj eo
      obtain ⟨v, h4, h5⟩ := zip_look h3 el
      exact ⟨.ref a, h1, a, C, dx, _, v, rfl, h2, c.cls, c.no f hf, h4, q v H .refl I.sm h5⟩
section
variable {X : Cx} {K : PySem.W.Frag} {x : Str} {p pos : Pos}
theorem pd_fld {C : Addr} {f : Str} {fl : List Str} (i : Nat) (hK : X.K = K) (c : OCls K C fl) (hf : f ∈ fl) (hN : X.N[i]? = some x := by rfl) (hv : Vis X.env.scope x := by first | exact Or.inl rfl | exact Or.inr (Or.inl rfl) | exact Or.inr (Or.inr rfl)) (hd : (x == ("__debug__" : Str)) = false := by decide)
    (hcd : (x == ("__classdict__" : Str)) = false := by decide) (hb : attributeBase (.Name x p) f X.env (eval (.Name x p) X.env) = eval (.Name x p) X.env := by rfl) : PDE X (.Attribute (.Name x p) f pos) (tFld K (tVar i) f) (mFldC C i f) := by
  subst hK
  exact ⟨pe_fld (pe_var hN hv hd hcd) hb, se_fld c hf⟩
end
/-! ### a method's statements: its own object in the slot 0 -/
structure OI (C a : Addr) (O : Addr → Prop) (P : Fix) (H0 : Hp) (σ : L2.St) (H : Hp) (env : DEnv) (S : Sm) (fs : List (Str × Dat)) : Prop where
  ei : EI O P σ H env S
  s0 : σ[0]? = some (some (.ref a))
  oa : O a
  np : a ≠ P.ps
  e0 : env[0]? = some (.ow (.ob C fs))
  no : ∀ (i : Nat) d, env[i]? = some (.ow d) → i = 0
  fr : FrA P a H0 H
section
variable {C a : Addr} {O : Addr → Prop} {P : Fix} {H0 H H' : Hp} {σ σ' : L2.St} {env : DEnv} {S S' : Sm} {fs : List (Str × Dat)}
theorem OI.frm (I : OI C a O P H0 σ H env S fs) (f : Fr P H H') (s : StrmAt P H' S') : OI C a O P H0 σ H' env S' fs := ⟨I.ei.fr f s, I.s0, I.oa, I.np, I.e0, I.no, I.fr.trans f.a⟩
theorem OI.own (I : OI C a O P H0 σ H env S fs) : Own O P.ps H a (.ob C fs) := by
  obtain ⟨p, h1, h2, h3, h4⟩ := I.ei.ow 0 _ I.e0
  rw [I.s0] at h1
  cases h1
  exact h4
theorem OI.setF {i : Nat} {v : V} {d : Dat} (I : OI C a O P H0 σ H env S fs) (h0 : i ≠ 0) (hi : i < env.length) (r : Rep O P.ps H v d) : OI C a O P H0 (σ.set i (some v)) H (env.set i (.fz d)) S fs := by
  refine ⟨I.ei.setF hi r, by rw [List.getElem?_set_ne h0]; exact I.s0, I.oa, I.np, by rw [List.getElem?_set_ne h0]; exact I.e0, fun j e h => ?_, I.fr⟩
  exact I.no j e (set_ow (fun _ z => by cases z) h).2
/-- the object written -/
theorem OI.put {f : Str} {v : V} {d : Dat} {dx : Addr} {vs : List V} (I : OI C a O P H0 σ H env S fs) (ha : H a = some (.ins C dx ((fs.map (·.1)).zip vs))) (hl : RepL O P.ps H vs (fs.map (·.2))) (r : Rep O P.ps H v d) :
    OI C a O P H0 σ (upd H a (.ins C dx (putF f v ((fs.map (·.1)).zip vs)))) (env.set 0 (.ow (.ob C (putFD f d fs)))) S (putFD f d fs) := by
  obtain ⟨ws, e1, l1⟩ := zip_put r hl
  have fr : FrA P a H (upd H a (.ins C dx (putF f v ((fs.map (·.1)).zip vs)))) := .upd
  have t := fr.tr I.ei.ops I.oa
  have h0 : 0 < env.length := (List.getElem?_eq_some_iff.mp I.e0).1
  have own : Own O P.ps (upd H a (.ins C dx (putF f v ((fs.map (·.1)).zip vs)))) a (.ob C (putFD f d fs)) := ⟨dx, ws, by rw [upd_same, e1], l1.tr t⟩
  refine ⟨⟨I.ei.ops, I.ei.nq, fun b o => ?_, ⟨?_, ?_⟩, ?_, fun i e h => ?_, fun i e h => ?_⟩, I.s0, I.oa, I.np, List.getElem?_set_self h0, fun i e h => ?_, I.fr.trans fr⟩
  · by_cases e : b = a
    · rw [e, upd_same]; simp
    · rw [upd_ne e]; exact I.ei.dom b o
  · rw [upd_ne I.np.symm]; exact I.ei.sm.1
  · rw [upd_ne (fun e => I.ei.nq (by rw [e]; exact I.oa))]; exact I.ei.sm.2
  · rw [List.length_set]; exact I.ei.len
  · by_cases hi : 0 = i
    · subst hi
      rw [List.getElem?_set_self h0] at h
      cases h
    · rw [List.getElem?_set_ne hi] at h
      obtain ⟨u, h1, h2⟩ := I.ei.fz i e h
      exact ⟨u, h1, h2.tr t⟩
  · by_cases hi : 0 = i
    · subst hi
      rw [List.getElem?_set_self h0] at h
      cases h
      exact ⟨a, I.s0, I.oa, I.np, own⟩
    · rw [List.getElem?_set_ne hi] at h
      exact (hi (I.no i e h).symm).elim
  · by_cases hi : 0 = i
    · exact hi.symm
    · rw [List.getElem?_set_ne hi] at h
      exact I.no i e h
end
/-- a statement that goes on -/
def SOb (C : Addr) (t : TS) (m : MS') : Prop := ∀ (a : Addr) (O : Addr → Prop) (P : Fix) (H0 : Hp) (σ : L2.St) (H : Hp) (env : DEnv) (S : Sm) (fs : List (Str × Dat)) (env' : DEnv) (S' : Sm) (D : Ends), OI C a O P H0 σ H env S fs → m env S = some (.nx env', S') →
  (∀ σ' H' fs', OI C a O P H0 σ' H' env' S' fs' → D.nx σ' H') → t D σ H
structure PSO (X : Cx) (C : Addr) (st : Stmt) (t : TS) (m : MS') : Prop where
  ps : PS X st t
  sem : SOb C t m
structure PSOs (X : Cx) (C : Addr) (st : List Stmt) (t : TS) (m : MS') : Prop where
  ps : PSs X st t
  sem : SOb C t m
/-- the end of a method -/
abbrev MF := DEnv → Sm → Option ((Dat × DEnv) × Sm)
def SOF (C : Addr) (t : TS) (m : MF) : Prop := ∀ (a : Addr) (O : Addr → Prop) (P : Fix) (H0 : Hp) (σ : L2.St) (H : Hp) (env : DEnv) (S : Sm) (fs : List (Str × Dat)) (d : Dat) (env' : DEnv) (S' : Sm) (D : Ends), OI C a O P H0 σ H env S fs → m env S = some ((d, env'), S') →
  (∀ v σ' H' fs', OI C a O P H0 σ' H' env' S' fs' → Rep O P.ps H' v d → D.rt v H') → (∀ σ' H' fs', OI C a O P H0 σ' H' env' S' fs' → d = .non → D.nx σ' H') → t D σ H
structure PSF (X : Cx) (C : Addr) (st : List Stmt) (t : TS) (m : MF) : Prop where
  ps : PSs X st t
  sem : SOF C t m
def mFin (a : M) : MF := fun env S => (a env S).map fun r => ((r.1, env), r.2)
def mEnd : MF := fun env S => some ((.non, env), S)
def mSeqF (m : MS') (b : MF) : MF := fun env S => (m env S).bind fun r => match r.1 with
  | .nx e => b e r.2
  | _ => none
def mPut (C : Addr) (f : Str) (a : M) : MS' := fun env S => (a env S).bind fun r => match obAt C env 0 with
  | some fs => if fs.length < 1000 then some (.nx (env.set 0 (.ow (.ob C (putFD f r.1 fs)))), r.2) else none
  | none => none
def mPut2 (C : Addr) (i : Nat) (f : Str) (a : M) : MS' := fun env S => (a env S).bind fun r => match r.1, obAt C env 0 with
  | .tup [d1, d2], some fs => if i ≠ 0 ∧ i < env.length ∧ fs.length < 1000 then some (.nx ((env.set i (.fz d1)).set 0 (.ow (.ob C (putFD f d2 fs)))), r.2) else none
  | _, _ => none
section
variable {X : Cx} {K : PySem.W.Frag} {C : Addr} {st : Stmt} {rest : List Stmt} {t u : TS} {a b : MS'} {pos : Pos}
theorem so_seqF {t u : TS} {a : MS'} {b : MF} (h1 : SOb C t a) (h2 : SOF C u b) : SOF C (tSeq t u) (mSeqF a b) := by
  intro p O P H0 σ H env S fs d env' S' D I e q1 q2
  unfold mSeqF at e
  cases ea : a env S with
  | none => rw [ea] at e; cases e
  | some r =>
    rw [ea] at e
    simp only [Option.bind_some] at e
    obtain ⟨f, S1⟩ := r
    cases f with
    | nx env1 => exact h1 p O P H0 σ H env S fs env1 S1 _ I ea fun σ1 H1 fs1 I1 => h2 p O P H0 σ1 H1 env1 S1 fs1 d env' S' D I1 e q1 q2
    | bk _ => cases e
    | ct _ => cases e
    | rt _ => cases e
theorem psf_cons {b : MF} (h : PSO X C st t a) (h2 : PSF X C rest u b) : PSF X C (st :: rest) (tSeq t u) (mSeqF a b) := ⟨pss_cons h.ps h2.ps, so_seqF h.sem h2.sem⟩
theorem psf_end : PSF X C [] tNext mEnd := ⟨pss_nil, fun p O P H0 σ H env S fs d env' S' D I e q1 q2 => by
  cases e
  exact q2 σ H fs I rfl⟩
theorem psf_ret {e : Expr} {te : TE} {m : M} (he : PDE X e te m) : PSF X C [.Return (some e) pos] (tRet te) (mFin m) := ⟨pss_one (ps_ret he.pe), fun p O P H0 σ H env S fs d env' S' D I e q1 q2 => by
  unfold mFin at e
  cases ea : m env S with
  | none => rw [ea] at e; cases e
  | some r =>
    rw [ea] at e
    cases e
    exact he.sem O P σ H env S r _ I.ei ea fun v H1 f s rv => q1 v σ H1 fs (I.frm f s) rv⟩
theorem so_doc {x j pos'} : PSO X C (.Expr (.Constant (.str x) j pos) pos') tNext mNext := ⟨ps_doc, fun p O P H0 σ H env S fs env' S' D I e q => by cases e; exact q σ H fs I⟩
theorem so_drop {e : Expr} {te : TE} {m : M} (he : PDE X e te m) (hs : swapsWith e none pos.line X.env = pure false := by rfl) : PSO X C (.Expr e pos) (tDrop te) (mDrop m) := ⟨ps_expr he.pe hs, fun p O P H0 σ H env S fs env' S' D I e q => by
  unfold mDrop at e
  cases ea : m env S with
  | none => rw [ea] at e; cases e
  | some r =>
    rw [ea] at e
    cases e
    exact he.sem O P σ H env S r _ I.ei ea fun v H1 f s rv => q σ H1 fs (I.frm f s)⟩
theorem so_never : PSO X C st tNever mNo := ⟨ps_never, fun p O P H0 σ H env S fs env' S' D I e q => by cases e⟩
theorem so_nil : PSOs X C [] tNext mNext := ⟨pss_nil, fun p O P H0 σ H env S fs env' S' D I e q => by cases e; exact q σ H fs I⟩
theorem so_one (h : PSO X C st t a) : PSOs X C [st] t a := ⟨pss_one h.ps, h.sem⟩
theorem so_if {c : Expr} {p q : List Stmt} {tc : TT} {mc : MT} (h : PDT X c tc mc) (h1 : PSOs X C p t a) (h2 : PSOs X C q u b) : PSO X C (.If c p q pos) (tIfS tc t u) (mIf mc a b) := ⟨ps_if h.pt h1.ps h2.ps, fun p' O P H0 σ H env S fs env' S' D I e q' => by
  unfold mIf at e
  cases ec : mc env S with
  | none => rw [ec] at e; cases e
  | some r =>
    rw [ec] at e
    simp only [Option.bind_some] at e
    refine h.sem O P σ H env S r _ I.ei ec fun H1 f s => ?_
    have I1 := I.frm f s
    split
    · rename_i hb
      rw [if_pos hb] at e
      exact h1.sem p' O P H0 σ H1 env r.2 fs env' S' D I1 e q'
    · rename_i hb
      rw [if_neg hb] at e
      exact h2.sem p' O P H0 σ H1 env r.2 fs env' S' D I1 e q'⟩
theorem so_set {i : Nat} {x : Str} {e : Expr} {te : TE} {m : M} {pos' : Pos} (h0 : i ≠ 0) (hN : X.N.Nodup) (hi : X.N[i]? = some x) (hx : Loc X.env.scope x) (he : PDE X e te m) (hs : swapsWith e (some (.Name x pos')) pos.line X.env = pure false := by rfl) (hf : X.fn x = true ∨ X.env.scope.names.lookup x = some .local := by first | exact .inl rfl | exact .inr rfl) :
    PSO X C (.Assign [.Name x pos'] e pos) (tAsg te (gName i)) (mSet i m) := ⟨ps_set hN hi hx he.pe hs hf, fun p O P H0 σ H env S fs env' S' D I e q => by
  unfold mSet at e
  cases ea : m env S with
  | none => rw [ea] at e; cases e
  | some r =>
    rw [ea] at e
    simp only [Option.bind_some] at e
    split at e
    · rename_i hi
      cases e
      exact he.sem O P σ H env S r _ I.ei ea fun v H1 f s rv => q _ H1 fs ((I.frm f s).setF h0 hi rv)
    · cases e⟩
theorem so_put {x f : Str} {e : Expr} {te : TE} {m : M} {p pos' : Pos} {fl : List Str} (hK : X.K = K) (c : OCls K C fl) (hf : f ∈ fl) (he : PDE X e te m) (hN : X.N[0]? = some x) (hv : Vis X.env.scope x) (hd : (x == ("__debug__" : Str)) = false := by decide)
    (hcd : (x == ("__classdict__" : Str)) = false := by decide) (hs : swapsWith e (some (.Attribute (.Name x p) f pos')) pos.line X.env = pure false := by rfl) : PSO X C (.Assign [.Attribute (.Name x p) f pos'] e pos) (sFld K (tVar 0) te f) (mPut C f m) := by
  subst hK
  refine ⟨ps_fld (pe_var hN hv hd hcd) he.pe hs, fun p O P H0 σ H env S fs env' S' D I e q => ?_⟩
  unfold mPut at e
  cases ea : m env S with
  | none => rw [ea] at e; cases e
  | some r =>
    rw [ea] at e
    simp only [Option.bind_some] at e
    split at e
    · rename_i fs' eo
      split at e
      · rename_i hl
        cases e
        refine he.sem O P σ H env S r _ I.ei ea fun v H1 f1 s1 rv => ?_
        have I1 := I.frm f1 s1
        obtain rfl : fs' = fs := by
          rcases obAt_ok eo with z | z
          · rw [I.e0] at z; cases z; rfl
          · rw [I.e0] at z; cases z
        obtain ⟨dx, vs, k1, k2⟩ := I1.own
        exact ⟨.ref p, I.s0, p, C, dx, _, rfl, k1, c.cls, c.no f hf, Nat.lt_of_le_of_lt zip_len hl, q σ _ _ (I1.put k1 k2 rv)⟩
      · cases e
    · cases e
theorem so_put2 {x y f : Str} {e : Expr} {te : TE} {m : M} {i : Nat} {p p1 p2 pt : Pos} {kt : Nat} {fl : List Str} (hK : X.K = K) (hcm : X.calm = true) (c : OCls K C fl) (hf : f ∈ fl) (he : PDE X e te m) (hNd : X.N.Nodup) (hi : X.N[i]? = some y) (hy : Loc X.env.scope y) (hN : X.N[0]? = some x) (hv : Vis X.env.scope x)
    (hps : PS X (.Assign [.Tuple [.Name y p1, .Attribute (.Name x p) f p2] kt pt] e pos) (tAsg te (gTup K 2 (gCons (gName i) (gCons (gFld K (tVar 0) f) gNil))))) :
    PSO X C (.Assign [.Tuple [.Name y p1, .Attribute (.Name x p) f p2] kt pt] e pos) (tAsg te (gTup K 2 (gCons (gName i) (gCons (gFld K (tVar 0) f) gNil)))) (mPut2 C i f m) := by
  refine ⟨hps, fun p O P H0 σ H env S fs env' S' D I e q => ?_⟩
  unfold mPut2 at e
  cases ea : m env S with
  | none => rw [ea] at e; cases e
  | some r =>
    rw [ea] at e
    simp only [Option.bind_some] at e
    split at e
    · rename_i d1 d2 fs' e1 eo
      split at e
      · rename_i hl
        obtain ⟨h0, hlt, hl⟩ := hl
        cases e
        refine he.sem O P σ H env S r _ I.ei ea fun v H1 f1 s1 rv => ?_
        have I1 := I.frm f1 s1
        rw [e1] at rv
        obtain rfl : fs' = fs := by
          rcases obAt_ok eo with z | z
          · rw [I.e0] at z; cases z; rfl
          · rw [I.e0] at z; cases z
        cases rv with
        | tup ta na le l =>
          cases l with
          | cons r1 l =>
            cases l with
            | cons r2 l =>
              cases l
              have I2 := I1.setF h0 hlt r1
              obtain ⟨dx, vs, k1, k2⟩ := I2.own
              refine ⟨_, _, rfl, ta.sq, rfl, _, _, rfl, _, _, rfl, .ref p, I2.s0, p, C, dx, _, rfl, k1, c.cls, c.no f hf, Nat.lt_of_le_of_lt zip_len hl, rfl, q _ _ _ (I2.put k1 k2 r2)⟩
      · cases e
    · cases e
end
/-! ### a method that may change its object -/
abbrev PhiO := List (Str × Dat) → List Dat → Sm → Option ((Dat × List (Str × Dat)) × Sm)
def GoodO (C : Addr) (φ : PhiO) : Sp := fun vs H Q _ => ∃ (O : Addr → Prop) (P : Fix) (a : Addr) (us : List V) (fs : List (Str × Dat)) (ds : List Dat) (S : Sm) (d : Dat) (fs' : List (Str × Dat)) (S' : Sm), vs = .ref a :: us ∧ HI O P H S ∧ O a ∧ a ≠ P.ps ∧ Own O P.ps H a (.ob C fs) ∧ RepL O P.ps H us ds ∧ φ fs ds S = some ((d, fs'), S') ∧
  ∀ v H', FrA P a H H' → StrmAt P H' S' → Own O P.ps H' a (.ob C fs') → Rep O P.ps H' v d → Q v H'
def initO (C : Addr) (fs : List (Str × Dat)) (N : List Str) (ds : List Dat) : DEnv := .ow (.ob C fs) :: (ds.map .fz ++ List.replicate (N.length - (ds.length + 1)) .no)
def runO (C : Addr) (N : List Str) (n : Nat) (m : MF) : PhiO := fun fs ds S => if ds.length + 1 = n then (m (initO C fs N ds) S).bind fun r => (obAt C r.1.2 0).map fun fs' => ((r.1.1, fs'), r.2) else none
theorem start_O {C a : Addr} {O : Addr → Prop} {P : Fix} {H : Hp} {S : Sm} {N : List Str} {us : List V} {ds : List Dat} {fs : List (Str × Dat)} (I : HI O P H S) (oa : O a) (np : a ≠ P.ps) (own : Own O P.ps H a (.ob C fs)) (r : RepL O P.ps H us ds) :
    OI C a O P H (L2.start N (.ref a :: us)) H (initO C fs N ds) S fs := by
  have J := start_inv (N := N) (vs := .non :: us) (ds := .non :: ds) I (.cons .non r)
  have noOw : ∀ (i : Nat) d, (initE N (.non :: ds))[i]? = some (.ow d) → False := fun i d h => by
    unfold initE at h
    by_cases hi : i < (Dat.non :: ds).length
    · rw [List.getElem?_append_left (by simpa using hi), List.getElem?_map] at h
      cases q : (Dat.non :: ds)[i]? with
      | none => rw [q] at h; cases h
      | some x => rw [q] at h; cases h
    · rw [List.getElem?_append_right (by simpa using hi), List.getElem?_replicate] at h
      split at h <;> cases h
  have eO : ∀ b, ownS O (L2.start N (.non :: us)) (initE N (.non :: ds)) b ↔ O b := fun b => ⟨fun z => z.elim id fun ⟨i, d, h, _⟩ => (noOw i d h).elim, .inl⟩
  have same : ∀ (i : Nat) d, (initO C fs N ds)[i + 1]? = some d → (initE N (.non :: ds))[i + 1]? = some d := fun i d h => by
    unfold initE
    exact h
  refine ⟨⟨I.ops, I.nq, I.dom, I.sm, ?_, fun i d h => ?_, fun i d h => ?_⟩, rfl, oa, np, rfl, fun i d h => ?_, .refl⟩
  · have := J.ei.len
    unfold L2.start initE at this
    unfold L2.start initO
    simpa using this
  · cases i with
    | zero => cases h
    | succ i =>
      obtain ⟨v, h3, h4⟩ := J.ei.fz (i + 1) d (same i _ h)
      exact ⟨v, h3, h4.tr (.of fun b u na e => ⟨fun z => na ((eO b).mpr z), e⟩)⟩
  · cases i with
    | zero => cases h; exact ⟨a, rfl, oa, np, own⟩
    | succ i => exact (noOw (i + 1) d (same i _ h)).elim
  · cases i with
    | zero => rfl
    | succ i => exact (noOw (i + 1) d (same i _ h)).elim
theorem fn_goodO {P : Program} {w : World} {K : PySem.W.Frag} {mg : Str → Option Value} {base : Heap} {x qual : Str} {st : Stmt} {f C : Addr} {fd : FuncData} {N ps : List Str} {k : Nat} {m : MF} (F : Fun K x qual st f fd) (S : FnScope N ps (defScope st))
    (hb : ∀ (cdv : Value) (A : Around) (outer : List Env) (s : Shared) (H : Hp) (E : XK), Room k (A.deeper (envOfC qual (defScope st) s.heap.objs.size f cdv)) → ∃ t, PSF (cxOf CX0 P w K mg base N qual (defScope st) f cdv A outer s H E).nox C (defBody st) t m) :
    FnOk P w K mg base CX0 (k + 1) f fd ps (GoodO C (runO C N ps.length m)) := by
  refine F.ok S (fun vs H Q E h => ?_) fun cdv A outer s H vs Q E hr h => ?_
  · obtain ⟨O, P', a, us, fs, ds, S', d, fs', S2, rfl, _, _, _, _, rl, e, _⟩ := h
    unfold runO at e
    split at e
    · rw [List.length_cons, rl.len]; assumption
    · cases e
  · obtain ⟨O, P', a, us, fs, ds, S', d, fs', S2, rfl, I, oa, np, own, rl, e, q⟩ := h
    obtain ⟨t, ht⟩ := hb cdv A outer s H E hr
    refine ⟨t, ht.ps, ?_⟩
    unfold runO at e
    split at e
    · cases em : m (initO C fs N ds) S' with
      | none => rw [em] at e; cases e
      | some r =>
        rw [em] at e
        simp only [Option.bind_some] at e
        cases eo : obAt C r.1.2 0 with
        | none => rw [eo] at e; cases e
        | some fs2 =>
          rw [eo] at e
          cases e
          obtain ⟨⟨d, env'⟩, S2⟩ := r
          have fin : ∀ {σ' H' fs3}, OI C a O P' H σ' H' env' S2 fs3 → Own O P'.ps H' a (.ob C fs') := fun {σ' H' fs3} J => by
            obtain rfl : fs' = fs3 := by
              rcases obAt_ok eo with z | z
              · have z : env'[0]? = _ := z
                rw [J.e0] at z; cases z; rfl
              · have z : env'[0]? = _ := z
                rw [J.e0] at z; cases z
            exact J.own
          refine ht.sem a O P' H _ H _ S' fs d env' S2 _ (start_O I oa np own rl) em (fun v σ' H' fs3 J rv => q v H' J.fr J.ei.sm (fin J) rv) fun σ' H' fs3 J ed => q .non H' J.fr J.ei.sm (fin J) ?_
          show Rep O P'.ps H' .non d
          rw [ed]
          exact .non
    · cases e
end PD

namespace PD
open PySem PySem.Spec PyProof.Rows L2
/-! ### an object made -/
def mMakeN (C : Addr) (φ : PhiO) (a : ML) : M := fun env S => (a env S).bind fun r => (φ [] r.1 r.2).bind fun w => match w.1.1 with
  | .non => some (.ob C w.1.2, w.2)
  | _ => none
theorem sn_make {C : Addr} {φ : PhiO} {E : XK} {ta : TA} {a : ML} (h : SA ta a) : SN (tMake C (GoodO C φ) [] E ta) (mMakeN C φ a) := by
  intro O P σ H env S r Q I e q
  unfold mMakeN at e
  cases ea : a env S with
  | none => rw [ea] at e; cases e
  | some x =>
    rw [ea] at e
    simp only [Option.bind_some] at e
    cases ew : φ [] x.1 x.2 with
    | none => rw [ew] at e; cases e
    | some w =>
      rw [ew] at e
      simp only [Option.bind_some] at e
      split at e
      · rename_i hd
        cases e
        obtain ⟨⟨d, fs'⟩, S'⟩ := w
        obtain rfl : d = .non := hd
        refine h O P σ H env S x _ I ea fun vs H1 f1 s1 rs => fun p dx n1 n2 ne => ?_
        have I1 := I.fr f1 s1
        have fr : Fr P H1 (upd (upd H1 dx (.own p)) p (.ins C dx [])) := Fr.trans (.new n2) (.new (by rw [upd_ne ne.symm]; exact n1))
        have s2 : StrmAt P (upd (upd H1 dx (.own p)) p (.ins C dx [])) x.2 := (s1.new n2).new (by rw [upd_ne ne.symm]; exact n1)
        have n0 : H p = none := back_none f1 s1 n1
        have np : p ≠ P.ps := ne_ps s1 n1
        have t : Tr O H1 (fun b => O b ∨ b = p) (upd (upd H1 dx (.own p)) p (.ins C dx [])) := .of fun b u nb hb => by
          refine ⟨fun z => z.elim nb fun z => ?_, fr b u (fun z => nb (by rw [z]; exact I.ops)) hb⟩
          rw [z, n1] at hb
          cases hb
        refine ⟨fun b => O b ∨ b = p, P, p, vs, [], x.1, x.2, .non, fs', S', by rw [List.append_nil], ⟨.inl I.ops, fun z => z.elim I.nq fun z => ?_, fun b z => ?_, s2⟩, .inr rfl, np, ⟨dx, [], upd_same, .nil⟩, rs.tr t, ew, fun v H3 f3 s3 o3 rv => ?_⟩
        · have := s1.2
          rw [z, n1] at this
          cases this
        · by_cases e : b = p
          · rw [e, upd_same]; simp
          · have := I1.dom b (z.resolve_right e)
            rw [upd_ne e]
            by_cases e2 : b = dx
            · rw [e2, upd_same]; simp
            · rw [upd_ne e2]; exact this
        · cases rv
          refine ⟨rfl, q p H3 n0 np (fun b u nb hb => ?_) s3 o3⟩
          have h1 := f1 b u nb hb
          have h2 := fr b u nb h1
          exact f3 b u nb (fun z => by rw [z, n1] at h1; cases h1) h2
      · cases e
/-! ### a method that changes an object of one's own -/
theorem SInv.obj {F : FX} {σ : L2.St} {H H' : Hp} {env : DEnv} {S S' : Sm} {i : Nat} {p : Addr} {d d' : Dat} (I : SInv F σ H env S) (he : env[i]? = some (.ow d)) (hσ : σ[i]? = some (some (.ref p))) (f : FrA F.P p H H') (s : StrmAt F.P H' S')
    (ho : Own (ownS F.O0 σ env) F.P.ps H' p d') : SInv F σ H' (env.set i (.ow d')) S' ∧ Tr (ownS F.O0 σ env) H (ownS F.O0 σ (env.set i (.ow d'))) H' := by
  have hi : i < env.length := (List.getElem?_eq_some_iff.mp he).1
  have get : ∀ (j : Nat) e, (env.set i (.ow d'))[j]? = some (.ow e) → (j = i ∧ e = d') ∨ (j ≠ i ∧ env[j]? = some (.ow e)) := fun j e h => by
    by_cases hj : i = j
    · subst hj
      rw [List.getElem?_set_self hi] at h
      cases h
      exact .inl ⟨rfl, rfl⟩
    · rw [List.getElem?_set_ne hj] at h
      exact .inr ⟨fun z => hj z.symm, h⟩
  have getW : ∀ (j : Nat) e, (env.set i (.ow d'))[j]? = some (.ow e) → ∃ e0, env[j]? = some (.ow e0) := fun j e h => by
    rcases get j e h with ⟨rfl, _⟩ | ⟨_, h⟩
    · exact ⟨d, he⟩
    · exact ⟨e, h⟩
  have same : ∀ a, ownS F.O0 σ (env.set i (.ow d')) a → ownS F.O0 σ env a := fun a z => z.elim .inl fun ⟨j, e, h1, h2⟩ => let ⟨e0, h3⟩ := getW j e h1; .inr ⟨j, e0, h3, h2⟩
  have same2 : ∀ a, ownS F.O0 σ env a → ownS F.O0 σ (env.set i (.ow d')) a := fun a z => z.elim .inl fun ⟨j, e, h1, h2⟩ => by
    by_cases hj : i = j
    · subst hj
      exact .inr ⟨i, d', List.getElem?_set_self hi, h2⟩
    · exact .inr ⟨j, e, (List.getElem?_set_ne hj).trans h1, h2⟩
  have op : ownS F.O0 σ env p := .inr ⟨i, d, he, hσ⟩
  have np : p ≠ F.P.ps := by
    obtain ⟨q, h1, h2, h3, h4⟩ := I.ei.ow i d he
    rw [hσ] at h1
    cases h1
    exact h3
  have t : Tr (ownS F.O0 σ env) H (ownS F.O0 σ (env.set i (.ow d'))) H' := .of fun a u na e => ⟨fun z => na (same a z), f a u (fun z => na (by rw [z]; exact .inl I.ps0)) (fun z => na (by rw [z]; exact op)) e⟩
  have t2 : Tr (ownS F.O0 σ env) H' (ownS F.O0 σ (env.set i (.ow d'))) H' := .of fun a u na e => ⟨fun z => na (same a z), e⟩
  refine ⟨⟨⟨.inl I.ps0, fun z => I.ei.nq (same _ z), fun a z => ?_, s, by rw [List.length_set]; exact I.ei.len, fun j e h => ?_, fun j e h => ?_⟩, fun a u na e => ?_, fun j e q h1 h2 => let ⟨e0, h3⟩ := getW j e h1; I.new j e0 q h3 h2, fun j k e e' q h1 h2 h3 h4 => let ⟨e0, h5⟩ := getW j e h1; let ⟨e1, h6⟩ := getW k e' h2; I.dis j k e0 e1 q h5 h6 h3 h4, I.o0, I.ps0⟩, t⟩
  · by_cases hap : a = p
    · obtain ⟨u, hu⟩ := ho.some
      rw [hap, hu]; simp
    · by_cases has : a = F.P.ps
      · rw [has, s.1]; simp
      · cases hH : H a with
        | none => exact (I.ei.dom a (same a z) hH).elim
        | some u => rw [f a u has hap hH]; simp
  · by_cases hj : i = j
    · subst hj
      rw [List.getElem?_set_self hi] at h
      cases h
    · rw [List.getElem?_set_ne hj] at h
      obtain ⟨u, h1, h2⟩ := I.ei.fz j e h
      exact ⟨u, h1, h2.tr t⟩
  · rcases get j e h with ⟨rfl, rfl⟩ | ⟨hj, h3⟩
    · exact ⟨p, hσ, same2 p op, np, ho.mono t2 fun _ z => z⟩
    · obtain ⟨q, k1, k2, k3, k4⟩ := I.ei.ow j e h3
      have hq : q ≠ p := fun z => hj (I.dis j i e d p h3 he (z ▸ k1) hσ)
      exact ⟨q, k1, same2 q k2, k3, k4.mono t fun u z => f q u k3 hq z⟩
  · have hap : a ≠ p := fun z => by
      have := I.new i d p he hσ
      rw [← z, e] at this
      cases this
    exact f a u na hap (I.frm a u na e)
def mMth (C : Addr) (φ : PhiO) (i : Nat) (mn : Str) (a : ML) : MF := fun env S => match env[i]? with
  | some (.ow (.ob c fs)) => (a env S).bind fun r => if c = C ∧ fs.lookup mn = none then (φ fs r.1 r.2).map fun w => ((w.1.1, env.set i (.ow (.ob C w.1.2))), w.2) else none
  | _ => none
def mMthS (j : Nat) (m : MF) : MS' := fun env S => (m env S).bind fun w => if j < w.1.2.length then some (.nx (w.1.2.set j (.fz w.1.1)), w.2) else none
def mMthD (m : MF) : MS' := fun env S => (m env S).map fun w => (.nx w.1.2, w.2)
theorem mth_run {C : Addr} {φ : PhiO} {E : XK} {i : Nat} {mn : Str} {ta : TA} {a : ML} (h : SA ta a) {F : FX} {σ : L2.St} {H : Hp} {env : DEnv} {S : Sm} {d : Dat} {env' : DEnv} {S' : Sm} {Q : VK} (I : SInv F σ H env S) (e : mMth C φ i mn a env S = some ((d, env'), S'))
    (q : ∀ v H', SInv F σ H' env' S' → Tr (ownS F.O0 σ env) H (ownS F.O0 σ env') H' → Rep (ownS F.O0 σ env') F.P.ps H' v d → Q v H') : tMeth C mn (GoodO C φ) [] E (tVar i) ta σ H Q := by
  unfold mMth at e
  split at e
  · rename_i c fs he
    cases ea : a env S with
    | none => rw [ea] at e; cases e
    | some x =>
      rw [ea] at e
      simp only [Option.bind_some] at e
      split at e
      · rename_i hc
        obtain ⟨rfl, hm⟩ := hc
        cases ew : φ fs x.1 x.2 with
        | none => rw [ew] at e; cases e
        | some w =>
          rw [ew] at e
          cases e
          obtain ⟨⟨d, fs'⟩, S'⟩ := w
          obtain ⟨p, h1, h2, h3, h4⟩ := I.ei.ow i _ he
          have h4' := h4
          obtain ⟨dx, ws, k1, k2⟩ := h4
          refine ⟨.ref p, h1, p, dx, _, rfl, k1, zip_none k2 hm, ?_⟩
          refine h _ F.P σ H env S x _ I.ei ea fun vs H1 f1 s1 rs => ?_
          have I1 := I.fr f1 s1
          have own : Own (ownS F.O0 σ env) F.P.ps H1 p (.ob c fs) := h4'.mono (f1.tr I.ei.ops) fun u hu => f1 p u h3 hu
          refine ⟨_, F.P, p, vs, fs, x.1, x.2, d, fs', S', by rw [List.append_nil], I1.ei.hi, h2, h3, own, rs, ew, fun v H2 f2 s2 o2 rv => ?_⟩
          obtain ⟨J, t⟩ := I1.obj he h1 f2 s2 o2
          have eq : ∀ b, ownS F.O0 σ (env.set i (.ow (.ob c fs'))) b → ownS F.O0 σ env b := fun b z => z.elim .inl fun ⟨j, e, g1, g2⟩ => by
            by_cases hj : i = j
            · subst hj
              exact .inr ⟨i, _, he, g2⟩
            · rw [List.getElem?_set_ne hj] at g1
              exact .inr ⟨j, e, g1, g2⟩
          exact q v H2 J ((f1.tr I.ei.ops).trans t) (rv.tr (.of fun b u nb hb => ⟨fun z => nb (eq b z), hb⟩))
      · cases e
  · cases e
theorem ss_mthD {C : Addr} {φ : PhiO} {E : XK} {i : Nat} {mn : Str} {ta : TA} {a : ML} (h : SA ta a) : SS (tDrop (tMeth C mn (GoodO C φ) [] E (tVar i) ta)) (mMthD (mMth C φ i mn a)) := by
  intro F σ H env S out D I e p
  unfold mMthD at e
  cases em : mMth C φ i mn a env S with
  | none => rw [em] at e; cases e
  | some w =>
    rw [em] at e
    cases e
    exact mth_run h I em fun v H' J t rv => p σ H' J t
theorem ss_mthS {C : Addr} {φ : PhiO} {E : XK} {i j : Nat} {mn : Str} {ta : TA} {a : ML} (h : SA ta a) : SS (tAsg (tMeth C mn (GoodO C φ) [] E (tVar i) ta) (gName j)) (mMthS j (mMth C φ i mn a)) := by
  intro F σ H env S out D I e p
  unfold mMthS at e
  cases em : mMth C φ i mn a env S with
  | none => rw [em] at e; cases e
  | some w =>
    rw [em] at e
    simp only [Option.bind_some] at e
    split at e
    · rename_i hj
      cases e
      refine mth_run h I em fun v H' J t rv => ?_
      obtain ⟨J2, t2⟩ := J.setF hj rv
      exact p _ H' J2 (t.trans t2)
    · cases e
/-! ### a method that changes nothing, of an object of one's own -/
def okRes : Dat → Bool
  | .lst ds => ds.all Dat.flat
  | d => d.flat1
def mMthB (C : Addr) (φ : Phi) (i : Nat) (mn : Str) (a : ML) : M := fun env S => match env[i]? with
  | some (.ow (.ob c fs)) => (a env S).bind fun r => if c = C ∧ fs.lookup mn = none then (φ (.ob C fs :: r.1) r.2).bind fun w => if okRes w.1 = true then some w else none else none
  | _ => none
theorem se_mthB {C : Addr} {φ : Phi} {E : XK} {i : Nat} {mn : Str} {ta : TA} {a : ML} (h : SA ta a) : SE (tMeth C mn (Good φ) [] E (tVar i) ta) (mMthB C φ i mn a) := by
  intro O P σ H env S r Q I e q
  unfold mMthB at e
  split at e
  · rename_i c fs he
    cases ea : a env S with
    | none => rw [ea] at e; cases e
    | some x =>
      rw [ea] at e
      simp only [Option.bind_some] at e
      split at e
      · rename_i hc
        obtain ⟨rfl, hm⟩ := hc
        cases ew : φ (.ob c fs :: x.1) x.2 with
        | none => rw [ew] at e; cases e
        | some w =>
          rw [ew] at e
          simp only [Option.bind_some] at e
          split at e
          · rename_i hf
            cases e
            obtain ⟨d, S9⟩ := r
            obtain ⟨p, h1, h2, h3, h4⟩ := I.ow i _ he
            have h4' := h4
            obtain ⟨dx, ws, k1, k2⟩ := h4
            refine ⟨.ref p, h1, p, dx, _, rfl, k1, zip_none k2 hm, ?_⟩
            refine h O P σ H env S x _ I ea fun vs H1 f1 s1 rs => ?_
            have I1 := (I.fr f1 s1).hi
            have own : Own O P.ps H1 p (.ob c fs) := h4'.mono (f1.tr I.ops) fun u hu => f1 p u h3 hu
            have tO : Tr O H1 (fun b => O b ∧ b ≠ p) H1 := .of fun b u nb hb => ⟨fun z => nb z.1, hb⟩
            have rp : Rep (fun b => O b ∧ b ≠ p) P.ps H1 (.ref p) (.ob c fs) := (own.mono tO fun _ z => z).rep fun z => z.2 rfl
            rw [List.append_nil]
            refine ⟨fun b => O b ∧ b ≠ p, P, _, x.2, (d, S9), ⟨⟨I.ops, h3.symm⟩, fun z => I.nq z.1, fun b z => I1.dom b z.1, s1⟩, .cons rp (rs.tr tO), ew, fun v H2 f2 s2 rv => q v H2 (f1.trans f2) s2 ?_⟩
            have hp2 : ∃ dx us, H2 p = some (.ins c dx us) := by
              obtain ⟨dx, us, e2, _⟩ := own
              exact ⟨dx, _, f2 p _ h3 e2⟩
            obtain ⟨dx2, us2, hp2⟩ := hp2
            have bk : ∀ b u, (∀ dx us, u ≠ HO.ins c dx us) → H2 b = some u → ¬ (O b ∧ b ≠ p) → ¬ O b := fun b u nu hb no ob => by
              by_cases e : b = p
              · rw [e, hp2] at hb
                cases hb
                exact nu _ _ rfl
              · exact no ⟨ob, e⟩
            cases rv with
            | tup ta no le l => exact .tup ta (by obtain ⟨ob, _, e2⟩ := ta; exact bk _ _ (fun _ _ z => by cases z) e2 no) le (l.flatO hf)
            | non => exact .non
            | bl b => exact .bl b
            | int i => exact .int i
            | str x hx => exact .str x hx
            | lst e2 no le l => exact .lst e2 (bk _ _ (fun _ _ z => by cases z) e2 no) le (l.flatO hf)
            | dk _ _ _ _ => exact Bool.noConfusion (show false = true from hf)
            | dt _ _ _ _ => exact Bool.noConfusion (show false = true from hf)
            | ob _ _ _ => exact Bool.noConfusion (show false = true from hf)
            | strm => exact Bool.noConfusion (show false = true from hf)
          · cases e
      · cases e
  · cases e
/-- self.f = e, where the same text stands already, of an object that is not one's own -/
def isStrO : Option Dat → Str → Bool
  | some (.str y), x => x == y
  | _, _ => false
theorem isStrO_ok {o : Option Dat} {x : Str} (h : isStrO o x = true) : o = some (.str x) := by
  unfold isStrO at h
  split at h
  · rw [eq_of_beq h]
  · cases h
def mPutSame (C : Addr) (f : Str) (a : M) : MS' := fun env S => (a env S).bind fun r => match r.1, (env[0]? : Option Slo) with
  | .str x, some (.fz (.ob c fs)) => if c = C ∧ fs.length < 1000 ∧ isStrO (fs.lookup f) x = true then some (.nx env, r.2) else none
  | _, _ => none
theorem upd_id {H : Hp} {a : Addr} {o : HO} (h : H a = some o) : upd H a o = H := by
  funext b
  by_cases e : b = a
  · rw [e, upd_same, h]
  · rw [upd_ne e]
theorem look_str {O : Addr → Prop} {ps : Addr} {H : Hp} {f x : Str} {fs : List (Str × Dat)} {vs : List V} (r : RepL O ps H vs (fs.map (·.2))) (h : fs.lookup f = some (.str x)) : ((fs.map (·.1)).zip vs).lookup f = some (.str x) := by
  obtain ⟨v, h1, h2⟩ := zip_look r h
  cases h2
  exact h1
theorem ss_putSame {K : PySem.W.Frag} {C : Addr} {f : Str} {te : TE} {m : M} {fl : List Str} (c : OCls K C fl) (hf : f ∈ fl) (h : SE te m) : SS (sFld K (tVar 0) te f) (mPutSame C f m) := by
  intro F σ H env S out D I e p
  unfold mPutSame at e
  cases ea : m env S with
  | none => rw [ea] at e; cases e
  | some r =>
    rw [ea] at e
    simp only [Option.bind_some] at e
    split at e
    · rename_i x c' fs e1 e2
      split at e
      · rename_i hc
        obtain ⟨rfl, hl, hk⟩ := hc
        cases e
        refine h _ F.P σ H env S r _ I.ei ea fun v H1 f1 s1 rv => ?_
        have I1 := I.fr f1 s1
        rw [e1] at rv
        cases rv
        obtain ⟨w, g1, g2⟩ := I1.ei.fz 0 _ e2
        cases g2 with
        | ob k1 k2 k3 =>
          rename_i a dx vs
          refine ⟨.ref a, g1, a, c', dx, _, rfl, k1, c.cls, c.no f hf, Nat.lt_of_le_of_lt zip_len hl, ?_⟩
          rw [putF_same (look_str k3 (isStrO_ok hk)), upd_id k1]
          exact p σ H1 I1 (f1.tr I.ei.ops)
      · cases e
    · cases e
section
variable {X : Cx} {K : PySem.W.Frag} {k : Nat} {f C : Addr} {fd : FuncData} {ps : List Str} {x mn : Str} {p p1 apos pos : Pos} {e : Expr} {es : List Expr} {ta : TA} {ml : ML}
theorem pn_make {φ : PhiO} (M : Mk X.K C f) (F : FnOk X.prog X.w X.K X.mg X.base CX0 k f fd ps (GoodO C φ)) (hr : Room (k + 1) X.A) (hg : Gl X x) (hm : X.mg x = some (.ref C)) (hb : Binds X.K fd ps [])
    (ha : PDA X (e :: es) ta ml) (hdb : (x == ("__debug__" : Str)) = false := by decide) (he : starEach (e :: es) X.env = (false, eval e X.env) :: starEach es X.env := by rfl) (hpl : (backTo pos (starEach es X.env)).any (·.1) = false := by rfl) :
    PDN X (.Call (.Name x p) (e :: es) [] pos) (tMake C (GoodO C φ) [] E0 ta) (mMakeN C φ ml) := ⟨pe_make M F hr hg hm hb .nil pass0 ha.pa hdb he hpl, sn_make ha.sem⟩
theorem pd_mthB {φ : Phi} {pl : Sem Bool} (i : Nat) (c : Cls X.K C) (hm : Meth X.K C mn f) (F : FnOk X.prog X.w X.K X.mg X.base CX0 k f fd ps (Good φ)) (hr : Room k X.A) (hb : Binds X.K fd ps [])
    (hN : X.N[i]? = some x := by rfl) (hv : Vis X.env.scope x := by first | exact Or.inl rfl | exact Or.inr (Or.inl rfl) | exact Or.inr (Or.inr rfl)) (hd : (x == ("__debug__" : Str)) = false := by decide) (hcd : (x == ("__classdict__" : Str)) = false := by decide)
    (ht : eval (.Call (.Attribute (.Name x p) mn apos) [] [] pos) X.env = (do
      let ov ← eval (.Name x p) X.env
      standAt apos.atName
      let (f, first) ← holding [ov] (getMethod ov mn pl)
      callWith pos f first (backTo pos (starEach [] X.env)) (backToKw pos (keywordEach [] X.env))) := by rfl) :
    PDE X (.Call (.Attribute (.Name x p) mn apos) [] [] pos) (tMeth C mn (Good φ) [] E0 (tVar i) tNil) (mMthB C φ i mn mNil) := ⟨pe_meth0 (pe_var hN hv hd hcd) c hm F hr hb .nil pass0 ht, se_mthB sa_nil⟩
theorem pds_mthS0 {φ : PhiO} {pl : Sem Bool} {y : Str} {j : Nat} (i : Nat) (c : Cls X.K C) (hm : Meth X.K C mn f) (F : FnOk X.prog X.w X.K X.mg X.base CX0 k f fd ps (GoodO C φ)) (hr : Room k X.A) (hb : Binds X.K fd ps []) (hNd : X.N.Nodup) (hj : X.N[j]? = some y) (hy : Loc X.env.scope y)
    (hN : X.N[i]? = some x := by rfl) (hv : Vis X.env.scope x := by first | exact Or.inl rfl | exact Or.inr (Or.inl rfl) | exact Or.inr (Or.inr rfl)) (hd : (x == ("__debug__" : Str)) = false := by decide) (hcd : (x == ("__classdict__" : Str)) = false := by decide)
    (ht : eval (.Call (.Attribute (.Name x p) mn apos) [] [] pos) X.env = (do
      let ov ← eval (.Name x p) X.env
      standAt apos.atName
      let (f, first) ← holding [ov] (getMethod ov mn pl)
      callWith pos f first (backTo pos (starEach [] X.env)) (backToKw pos (keywordEach [] X.env))) := by rfl) {p6 pos2 : Pos}
    (hs : swapsWith (.Call (.Attribute (.Name x p) mn apos) [] [] pos) (some (.Name y p6)) pos2.line X.env = pure false := by rfl) (hf : X.fn y = true ∨ X.env.scope.names.lookup y = some .local := by first | exact .inl rfl | exact .inr rfl) :
    PDS X (.Assign [.Name y p6] (.Call (.Attribute (.Name x p) mn apos) [] [] pos) pos2) (tAsg (tMeth C mn (GoodO C φ) [] E0 (tVar i) tNil) (gName j)) (mMthS j (mMth C φ i mn mNil)) := ⟨ps_set hNd hj hy (pe_meth0 (pe_var hN hv hd hcd) c hm F hr hb .nil pass0 ht) hs hf, ss_mthS sa_nil⟩
theorem pds_mthS {φ : PhiO} {pl : Sem Bool} {y : Str} {j : Nat} (i : Nat) (c : Cls X.K C) (hm : Meth X.K C mn f) (F : FnOk X.prog X.w X.K X.mg X.base CX0 k f fd ps (GoodO C φ)) (hr : Room k X.A) (hb : Binds X.K fd ps []) (ha : PDA X (e :: es) ta ml) (hNd : X.N.Nodup) (hj : X.N[j]? = some y) (hy : Loc X.env.scope y)
    (hN : X.N[i]? = some x := by rfl) (hv : Vis X.env.scope x := by first | exact Or.inl rfl | exact Or.inr (Or.inl rfl) | exact Or.inr (Or.inr rfl)) (hd : (x == ("__debug__" : Str)) = false := by decide) (hcd : (x == ("__classdict__" : Str)) = false := by decide)
    (hst : starEach (e :: es) X.env = (false, eval e X.env) :: starEach es X.env := by rfl) (hpl : (backTo pos (starEach es X.env)).any (·.1) = false := by rfl)
    (ht : eval (.Call (.Attribute (.Name x p) mn apos) (e :: es) [] pos) X.env = (do
      let ov ← eval (.Name x p) X.env
      standAt apos.atName
      let (f, first) ← holding [ov] (getMethod ov mn pl)
      callWith pos f first (backTo pos (starEach (e :: es) X.env)) (backToKw pos (keywordEach [] X.env))) := by rfl) {p6 pos2 : Pos}
    (hs : swapsWith (.Call (.Attribute (.Name x p) mn apos) (e :: es) [] pos) (some (.Name y p6)) pos2.line X.env = pure false := by rfl) (hf : X.fn y = true ∨ X.env.scope.names.lookup y = some .local := by first | exact .inl rfl | exact .inr rfl) :
    PDS X (.Assign [.Name y p6] (.Call (.Attribute (.Name x p) mn apos) (e :: es) [] pos) pos2) (tAsg (tMeth C mn (GoodO C φ) [] E0 (tVar i) ta) (gName j)) (mMthS j (mMth C φ i mn ml)) := ⟨ps_set hNd hj hy (pe_meth (pe_var hN hv hd hcd) c hm F hr hb .nil pass0 ha.pa hst hpl ht) hs hf, ss_mthS ha.sem⟩
theorem pds_mthD {φ : PhiO} {pl : Sem Bool} (i : Nat) (c : Cls X.K C) (hm : Meth X.K C mn f) (F : FnOk X.prog X.w X.K X.mg X.base CX0 k f fd ps (GoodO C φ)) (hr : Room k X.A) (hb : Binds X.K fd ps []) (ha : PDA X (e :: es) ta ml)
    (hN : X.N[i]? = some x := by rfl) (hv : Vis X.env.scope x := by first | exact Or.inl rfl | exact Or.inr (Or.inl rfl) | exact Or.inr (Or.inr rfl)) (hd : (x == ("__debug__" : Str)) = false := by decide) (hcd : (x == ("__classdict__" : Str)) = false := by decide)
    (hst : starEach (e :: es) X.env = (false, eval e X.env) :: starEach es X.env := by rfl) (hpl : (backTo pos (starEach es X.env)).any (·.1) = false := by rfl)
    (ht : eval (.Call (.Attribute (.Name x p) mn apos) (e :: es) [] pos) X.env = (do
      let ov ← eval (.Name x p) X.env
      standAt apos.atName
      let (f, first) ← holding [ov] (getMethod ov mn pl)
      callWith pos f first (backTo pos (starEach (e :: es) X.env)) (backToKw pos (keywordEach [] X.env))) := by rfl) {pos2 : Pos}
    (hs : swapsWith (.Call (.Attribute (.Name x p) mn apos) (e :: es) [] pos) none pos2.line X.env = pure false := by rfl) :
    PDS X (.Expr (.Call (.Attribute (.Name x p) mn apos) (e :: es) [] pos) pos2) (tDrop (tMeth C mn (GoodO C φ) [] E0 (tVar i) ta)) (mMthD (mMth C φ i mn ml)) := ⟨ps_expr (pe_meth (pe_var hN hv hd hcd) c hm F hr hb .nil pass0 ha.pa hst hpl ht) hs, ss_mthD ha.sem⟩
theorem pds_putSame {fn : Str} {te : TE} {m : M} {fl : List Str} {pos' : Pos} (hK : X.K = K) (c : OCls K C fl) (hf : fn ∈ fl) (he : PDE X e te m) (hN : X.N[0]? = some x) (hv : Vis X.env.scope x) (hd : (x == ("__debug__" : Str)) = false := by decide)
    (hcd : (x == ("__classdict__" : Str)) = false := by decide) (hs : swapsWith e (some (.Attribute (.Name x p) fn pos')) pos.line X.env = pure false := by rfl) : PDS X (.Assign [.Attribute (.Name x p) fn pos'] e pos) (sFld K (tVar 0) te fn) (mPutSame C fn m) := by
  subst hK
  exact ⟨ps_fld (pe_var hN hv hd hcd) he.pe hs, ss_putSame c hf he.sem⟩
end
/-! ### a method that raises, in a try body -/
def tMethS (C : Addr) (m : Str) (sp : Sp) (E : L2.St → XK) (ta : TE) (t : TA) : TE := fun σ H Q => ta σ H fun x H1 => ∃ a dx fs, x = .ref a ∧ H1 a = some (.ins C dx fs) ∧ fs.lookup m = none ∧
  t σ H1 fun vs H2 => sp (x :: vs) H2 Q (E σ)
theorem pe_methSt {X : Cx} {CX : CXT} {k : Nat} {f C : Addr} {fd : FuncData} {ps : List Str} {sp : Sp} {E : L2.St → XK} {m : Str} {pos apos : Pos} {e o : Expr} {es : List Expr} {ta : TE} {t : TA} {pl : Sem Bool} (he : PE X o ta) (c : Cls X.K C) (hm : Meth X.K C m f)
    (F : FnOk X.prog X.w X.K X.mg X.base CX k f fd ps sp) (hr : Room k X.A) (hb : Binds X.K fd ps []) (hx : ∀ σ, PassesAt CX X σ (E σ)) (ha : PA X (e :: es) t)
    (hst : starEach (e :: es) X.env = (false, eval e X.env) :: starEach es X.env := by rfl) (hpl : (backTo pos (starEach es X.env)).any (·.1) = false := by rfl)
    (ht : eval (.Call (.Attribute o m apos) (e :: es) [] pos) X.env = (do
      let ov ← eval o X.env
      standAt apos.atName
      let (f, first) ← holding [ov] (getMethod ov m pl)
      callWith pos f first (backTo pos (starEach (e :: es) X.env)) (backToKw pos (keywordEach [] X.env))) := by rfl) :
    PE X (.Call (.Attribute o m apos) (e :: es) [] pos) (tMethS C m sp E ta t) := by
  refine ⟨fun pins s σ H Q I h => ?_⟩
  refine PySem.W.methodCall_KW (pl := pl) (thn (he.run pins s σ H _ I h) fun u s1 ⟨x, H1, I1, rx, a, dx, fs, ex, ea, l, q⟩ => ?_) ht
  subst ex
  obtain rfl : u = Value.ref a := rx
  refine getmeth_ok I1 ea c hm l ?_
  refine PySem.W.callWith_K (first := [.ref a]) (h₀ := X.base) I.ok.mod.kin hm.kp (thn (ha.run pos pins s1 σ H1 _ I1 q) fun us s2 ⟨vs, H2, I2, r, q2⟩ => ⟨I2.kIn, ?_⟩) hst hpl
  exact run_fnS (us := .ref a :: us) (vs := .ref a :: vs) F hr hb (hx σ) I2 (.cons rfl r) q2
def mMthX (C : Addr) (φ : PhiX) (i : Nat) (mn : Str) (a : ML) : MX := fun env S => match env[i]? with
  | some (.fz (.ob c fs)) => (a env S).bind fun r => if c = C ∧ fs.lookup mn = none then match φ (.ob C fs :: r.1) r.2 with
    | some (.ex c fs, S') => some (.ex c fs env, S')
    | _ => none else none
  | _ => none
theorem sx_retMth {Cl : Nat → Addr} {W : WX} {C : Addr} {φ : PhiX} {i : Nat} {mn : Str} {ta : TA} {a : ML} (h : SA ta a) : SX Cl W (tRet (tMethS C mn (GoodX Cl φ) (WE W) (tVar i) ta)) (mMthX C φ i mn a) := by
  intro F σ H env S out D I e p
  unfold mMthX at e
  split at e
  · rename_i c fs he
    cases ea : a env S with
    | none => rw [ea] at e; cases e
    | some x =>
      rw [ea] at e
      simp only [Option.bind_some] at e
      split at e
      · rename_i hc
        obtain ⟨rfl, hm⟩ := hc
        cases ew : φ (.ob c fs :: x.1) x.2 with
        | none => rw [ew] at e; cases e
        | some w =>
          rw [ew] at e
          obtain ⟨r, S'⟩ := w
          cases r with
          | ok d => cases e
          | ex cn fx =>
            cases e
            obtain ⟨v, g1, g2⟩ := I.ei.fz i _ he
            have g2' := g2
            cases g2 with
            | ob k1 k2 k3 =>
              rename_i pa dx ws
              refine ⟨.ref pa, g1, pa, dx, _, rfl, k1, zip_none k3 hm, ?_⟩
              refine h _ F.P σ H env S x _ I.ei ea fun vs H1 f1 s1 rs => ?_
              have I1 := I.fr f1 s1
              exact ⟨_, F.P, _, x.2, (.ex cn fx, S'), I1.ei.hi, .cons (g2'.tr (f1.tr I.ei.ops)) rs, ew, fun dd H2 f2 s2 rf => p σ H2 dd (I1.fr f2 s2) rf.o0⟩
      · cases e
  · cases e
section
variable {Cl : Nat → Addr} {X : Cx} {W : WX} {φ : PhiX} {k : Nat} {f C : Addr} {fd : FuncData} {ps : List Str} {x mn : Str} {p pos pos' apos : Pos} {e : Expr} {es : List Expr} {ta : TA} {ml : ML} {pl : Sem Bool}
theorem px_retMth (i : Nat) (c : Cls X.K C) (hm : Meth X.K C mn f) (F : FnOk X.prog X.w X.K X.mg X.base (L2.CX X.prog X.w) k f fd ps (GoodX Cl φ)) (hr : Room k X.A) (hb : Binds X.K fd ps []) (ha : PDA X (e :: es) ta ml)
    (hN : X.N[i]? = some x := by rfl) (hv : Vis X.env.scope x := by first | exact Or.inl rfl | exact Or.inr (Or.inl rfl) | exact Or.inr (Or.inr rfl)) (hd : (x == ("__debug__" : Str)) = false := by decide) (hcd : (x == ("__classdict__" : Str)) = false := by decide)
    (hst : starEach (e :: es) X.env = (false, eval e X.env) :: starEach es X.env := by rfl) (hpl : (backTo pos (starEach es X.env)).any (·.1) = false := by rfl)
    (ht : eval (.Call (.Attribute (.Name x p) mn apos) (e :: es) [] pos) X.env = (do
      let ov ← eval (.Name x p) X.env
      standAt apos.atName
      let (f, first) ← holding [ov] (getMethod ov mn pl)
      callWith pos f first (backTo pos (starEach (e :: es) X.env)) (backToKw pos (keywordEach [] X.env))) := by rfl) :
    PXS Cl X W (.Return (some (.Call (.Attribute (.Name x p) mn apos) (e :: es) [] pos)) pos') (tRet (tMethS C mn (GoodX Cl φ) (WE W) (tVar i) ta)) (mMthX C φ i mn ml) :=
  ⟨fun tk => ps_ret (pe_methSt (pe_var hN hv hd hcd) c hm F hr hb (fun σ => passAt tk σ) ha.pa hst hpl ht), sx_retMth ha.sem⟩
end
end PD

namespace PD
open PySem PySem.Spec PyProof.Rows L2
section
variable {env : DEnv} {S : Sm} {Q : Dat → Sm → Prop} {QS : Fl → Sm → Prop} {QX : FlX → Sm → Prop} {QF : Dat × DEnv → Sm → Prop} {QO : Dat × List (Str × Dat) → Sm → Prop} {C i : Nat} {f mn : Str} {a : ML}
theorem obAt_of {fs : List (Str × Dat)} (h : env[i]? = some (.ow (.ob C fs)) ∨ env[i]? = some (.fz (.ob C fs))) : obAt C env i = some fs := by
  unfold obAt
  rcases h with e | e <;> rw [e] <;> exact if_pos rfl
theorem w_fld : Ok (mFldC C i f env S) Q ↔ ∃ fs, (env[i]? = some (.ow (.ob C fs)) ∨ env[i]? = some (.fz (.ob C fs))) ∧ ∃ d, fs.lookup f = some d ∧ Q d S := by
  unfold mFldC
  constructor
  · rintro ⟨d, S', e, q⟩
    cases eo : obAt C env i with
    | none => rw [eo] at e; cases e
    | some fs =>
      rw [eo] at e
      simp only [Option.bind_some] at e
      cases el : fs.lookup f with
      | none => rw [el] at e; cases e
      | some d => rw [el] at e; cases e; exact ⟨fs, obAt_ok eo, d, el, q⟩
  · rintro ⟨fs, h, d, el, q⟩
    exact ⟨d, S, by rw [obAt_of h, Option.bind_some, el]; rfl, q⟩
theorem w_makeN {φ : PhiO} : Ok (mMakeN C φ a env S) Q ↔ Ok (a env S) fun ds S1 => Ok (φ [] ds S1) fun w S2 => w.1 = .non ∧ Q (.ob C w.2) S2 := by
  unfold mMakeN
  simp only [ok_bind]
  constructor <;> refine fun h => h.mono fun ds S1 q => q.mono fun w S2 q => ?_
  · split at q
    · rename_i e
      exact ⟨e, ok_some.mp q⟩
    · exact (ok_none.mp q).elim
  · obtain ⟨⟨d, fs⟩, S9⟩ : (Dat × List (Str × Dat)) × Sm := (w, S2)
    rw [q.1]
    exact ok_some.mpr q.2
theorem w_mth {φ : PhiO} : Ok (mMth C φ i mn a env S) QF ↔ ∃ fs, env[i]? = some (.ow (.ob C fs)) ∧ fs.lookup mn = none ∧ Ok (a env S) fun ds S1 => Ok (φ fs ds S1) fun w S2 => QF (w.1, env.set i (.ow (.ob C w.2))) S2 := by
  unfold mMth
  constructor
  · intro h
    split at h
    · rename_i c fs he
      simp only [ok_bind] at h
      obtain ⟨ds, S1, ea, h⟩ := h
      split at h
      · rename_i hc
        obtain ⟨rfl, hm⟩ := hc
        simp only [ok_mapS] at h
        exact ⟨fs, he, hm, ds, S1, ea, h⟩
      · exact (ok_none.mp h).elim
    · exact (ok_none.mp h).elim
  · rintro ⟨fs, he, hm, h⟩
    rw [he]
    simp only [ok_bind]
    refine h.mono fun ds S1 q => ?_
    rw [if_pos ⟨trivial, hm⟩]
    simp only [ok_mapS]
    exact q
theorem w_mthS {j : Nat} {m : MF} : Ok (mMthS j m env S) QS ↔ Ok (m env S) fun w S1 => j < w.2.length ∧ QS (.nx (w.2.set j (.fz w.1))) S1 := by
  unfold mMthS
  simp only [ok_bind]
  constructor <;> refine fun h => h.mono fun w S1 q => ?_
  · split at q
    · rename_i h
      exact ⟨h, ok_some.mp q⟩
    · exact (ok_none.mp q).elim
  · rw [if_pos q.1]
    exact ok_some.mpr q.2
theorem w_mthD {m : MF} : Ok (mMthD m env S) QS ↔ Ok (m env S) fun w S1 => QS (.nx w.2) S1 := by
  unfold mMthD
  simp only [ok_mapS]
theorem w_mthB {φ : Phi} : Ok (mMthB C φ i mn a env S) Q ↔ ∃ fs, env[i]? = some (.ow (.ob C fs)) ∧ fs.lookup mn = none ∧ Ok (a env S) fun ds S1 => Ok (φ (.ob C fs :: ds) S1) fun d S2 => okRes d = true ∧ Q d S2 := by
  unfold mMthB
  constructor
  · intro h
    split at h
    · rename_i c fs he
      simp only [ok_bind] at h
      obtain ⟨ds, S1, ea, h⟩ := h
      split at h
      · rename_i hc
        obtain ⟨rfl, hm⟩ := hc
        simp only [ok_bind] at h
        refine ⟨fs, he, hm, ds, S1, ea, h.mono fun d S2 q => ?_⟩
        split at q
        · rename_i k
          exact ⟨k, ok_some.mp q⟩
        · exact (ok_none.mp q).elim
      · exact (ok_none.mp h).elim
    · exact (ok_none.mp h).elim
  · rintro ⟨fs, he, hm, h⟩
    rw [he]
    simp only [ok_bind]
    refine h.mono fun ds S1 q => ?_
    rw [if_pos ⟨trivial, hm⟩]
    simp only [ok_bind]
    refine q.mono fun d S2 q => ?_
    rw [if_pos q.1]
    exact ok_some.mpr q.2
theorem w_mthX {φ : PhiX} : Ok (mMthX C φ i mn a env S) QX ↔ ∃ fs, env[i]? = some (.fz (.ob C fs)) ∧ fs.lookup mn = none ∧ Ok (a env S) fun ds S1 => Ok (φ (.ob C fs :: ds) S1) (exR env QX) := by
  unfold mMthX
  constructor
  · intro h
    split at h
    · rename_i c fs he
      simp only [ok_bind] at h
      obtain ⟨ds, S1, ea, h⟩ := h
      split at h
      · rename_i hc
        obtain ⟨rfl, hm⟩ := hc
        refine ⟨fs, he, hm, ds, S1, ea, ?_⟩
        split at h
        · rename_i c2 fs2 S3 e2
          rw [e2]
          have hq : QX (.ex c2 fs2 env) S3 := ok_some.mp h
          exact ⟨_, _, rfl, hq⟩
        · exact (ok_none.mp h).elim
      · exact (ok_none.mp h).elim
    · exact (ok_none.mp h).elim
  · rintro ⟨fs, he, hm, h⟩
    rw [he]
    simp only [ok_bind]
    refine h.mono fun ds S1 q => ?_
    rw [if_pos ⟨trivial, hm⟩]
    obtain ⟨r, S2, e, q⟩ := q
    have e : φ (.ob C fs :: ds) S1 = some (r, S2) := e
    show Ok (match φ (.ob C fs :: ds) S1 with
      | some (.ex c fs, S') => some (.ex c fs env, S')
      | _ => none) QX
    rw [e]
    cases r with
    | ok d => exact q.elim
    | ex c fs => exact ok_some.mpr q
theorem w_putSame {m : M} : Ok (mPutSame C f m env S) QS ↔ Ok (m env S) fun d S1 => ∃ fs x, d = .str x ∧ env[0]? = some (.fz (.ob C fs)) ∧ fs.length < 1000 ∧ fs.lookup f = some (.str x) ∧ QS (.nx env) S1 := by
  unfold mPutSame
  simp only [ok_bind]
  constructor <;> refine fun h => h.mono fun d S1 q => ?_
  · split at q
    · rename_i x c fs e2
      split at q
      · rename_i hc
        obtain ⟨rfl, h1, h2⟩ := hc
        exact ⟨fs, x, rfl, e2, h1, isStrO_ok h2, ok_some.mp q⟩
      · exact (ok_none.mp q).elim
    · exact (ok_none.mp q).elim
  · obtain ⟨fs, x, rfl, e2, h1, h2, q⟩ := q
    rw [e2]
    show Ok (if C = C ∧ fs.length < 1000 ∧ isStrO (fs.lookup f) x = true then _ else none) QS
    rw [if_pos ⟨rfl, h1, by rw [h2]; exact beq_self_eq_true x⟩]
    exact ok_some.mpr q
theorem w_put {m : M} : Ok (mPut C f m env S) QS ↔ Ok (m env S) fun d S1 => ∃ fs, (env[0]? = some (.ow (.ob C fs)) ∨ env[0]? = some (.fz (.ob C fs))) ∧ fs.length < 1000 ∧ QS (.nx (env.set 0 (.ow (.ob C (putFD f d fs))))) S1 := by
  unfold mPut
  simp only [ok_bind]
  constructor <;> refine fun h => h.mono fun d S1 q => ?_
  · split at q
    · rename_i fs e
      split at q
      · rename_i h
        exact ⟨fs, obAt_ok e, h, ok_some.mp q⟩
      · exact (ok_none.mp q).elim
    · exact (ok_none.mp q).elim
  · obtain ⟨fs, e, h, q⟩ := q
    rw [obAt_of e]
    show Ok (if fs.length < 1000 then _ else none) QS
    rw [if_pos h]
    exact ok_some.mpr q
theorem w_put2 {j : Nat} {m : M} : Ok (mPut2 C j f m env S) QS ↔ Ok (m env S) fun d S1 => ∃ fs d1 d2, d = .tup [d1, d2] ∧ (env[0]? = some (.ow (.ob C fs)) ∨ env[0]? = some (.fz (.ob C fs))) ∧ (j ≠ 0 ∧ j < env.length ∧ fs.length < 1000) ∧ QS (.nx ((env.set j (.fz d1)).set 0 (.ow (.ob C (putFD f d2 fs))))) S1 := by
  unfold mPut2
  simp only [ok_bind]
  constructor <;> refine fun h => h.mono fun d S1 q => ?_
  · split at q
    · rename_i d1 d2 fs e
      split at q
      · rename_i h
        exact ⟨fs, d1, d2, rfl, obAt_ok e, h, ok_some.mp q⟩
      · exact (ok_none.mp q).elim
    · exact (ok_none.mp q).elim
  · obtain ⟨fs, d1, d2, rfl, e, h, q⟩ := q
    rw [obAt_of e]
    show Ok (if j ≠ 0 ∧ j < env.length ∧ fs.length < 1000 then _ else none) QS
    rw [if_pos h]
    exact ok_some.mpr q
def seqF (b : MF) (QF : Dat × DEnv → Sm → Prop) : Fl → Sm → Prop
  | .nx e, S => Ok (b e S) QF
  | _, _ => False
theorem seqF_nx {b : MF} {e : DEnv} : seqF b QF (.nx e) S ↔ Ok (b e S) QF := Iff.rfl
theorem w_seqF {m : MS'} {b : MF} : Ok (mSeqF m b env S) QF ↔ Ok (m env S) (seqF b QF) := by
  unfold mSeqF
  simp only [ok_bind]
  constructor <;> refine fun h => h.mono fun g S1 q => ?_ <;> cases g <;> first | exact q | exact (ok_none.mp q).elim | exact q.elim
theorem w_fin {m : M} : Ok (mFin m env S) QF ↔ Ok (m env S) fun d S1 => QF (d, env) S1 := by
  unfold mFin
  simp only [ok_mapS]
theorem w_end : Ok (mEnd env S) QF ↔ QF (.non, env) S := ok_some
theorem w_runO {N : List Str} {n : Nat} {m : MF} {fs : List (Str × Dat)} {ds : List Dat} : Ok (runO C N n m fs ds S) QO ↔ ds.length + 1 = n ∧ Ok (m (initO C fs N ds) S) fun r S1 => ∃ gs, (r.2[0]? = some (.ow (.ob C gs)) ∨ r.2[0]? = some (.fz (.ob C gs))) ∧ QO (r.1, gs) S1 := by
  unfold runO
  split
  · rename_i h
    simp only [ok_bind, ok_mapP]
    constructor
    · refine fun k => ⟨h, k.mono fun r S1 q => ?_⟩
      obtain ⟨gs, e, q⟩ := q
      exact ⟨gs, obAt_ok e, q⟩
    · rintro ⟨_, k⟩
      refine k.mono fun r S1 q => ?_
      obtain ⟨gs, e, q⟩ := q
      exact ⟨gs, obAt_of e, q⟩
  · rename_i h
    exact ⟨fun q => (ok_none.mp q).elim, fun q => (h q.1).elim⟩
end
/-- a class of objects: its making, its fields, its methods -/
structure OKls (K : PySem.W.Frag) (mg : Str → Option Value) (x : Str) (C fI : Addr) (fl : List Str) : Prop where
  oc : OCls K C fl
  mak : Mk K C fI
  gC : mg x = some (.ref C)
end PD
namespace PDH
open PySem PySem.Spec PyProof.Rows L2
def clsB (K : PySem.W.Frag) (C : Addr) : Bool := PySem.W.plainGet K C Str.empty && (PySem.W.hasDictIn K C && (PySem.W.plainOver K C && decide (PySem.W.findIn K (.ref C) "__setattr__" = some (some (.builtin "object.__setattr__")))))
theorem clsB_ok {K : PySem.W.Frag} {C : Addr} (h : clsB K C = true) : Cls K C := by
  obtain ⟨h1, h⟩ := He.ba h
  obtain ⟨h2, h⟩ := He.ba h
  obtain ⟨h3, h4⟩ := He.ba h
  exact ⟨h1, h2, h3, of_decide_eq_true h4⟩
def methB (K : PySem.W.Frag) (C : Addr) (m : Str) : Bool := decide (PySem.W.findIn K (.ref C) m = some (some (.ref (He.ma K C m)))) && (PySem.W.isFn K (.ref (He.ma K C m)) && PySem.W.keepIn K (.ref (He.ma K C m)))
theorem methB_ok {K : PySem.W.Frag} {C : Addr} {m : Str} (h : methB K C m = true) : Meth K C m (He.ma K C m) := by
  obtain ⟨h1, h⟩ := He.ba h
  obtain ⟨h2, h3⟩ := He.ba h
  exact ⟨of_decide_eq_true h1, h2, h3⟩
def okB (K : PySem.W.Frag) (x : Str) (fl : List Str) : Bool := clsB K (He.ga K x) && (fl.all (fun f => decide (PySem.W.findIn K (.ref (He.ga K x)) f = some none)) && mkB K x)
theorem okB_ok {K : PySem.W.Frag} {h : Heap} {mg : Str → Option Value} (X : K.In h) (G : h.Ns mainGlobals mg) {x : Str} {fl : List Str} (c : okB K x fl = true) : PD.OKls K mg x (He.ga K x) (He.ma K (He.ga K x) "__init__") fl ∧ PySem.W.keepIn K (.ref (He.ma K (He.ga K x) "__init__")) = true := by
  obtain ⟨h1, c⟩ := He.ba c
  obtain ⟨h2, h3⟩ := He.ba c
  obtain ⟨hm, hk⟩ := mk_ok X G h3
  exact ⟨⟨⟨clsB_ok h1, fun f hf => of_decide_eq_true (p := PySem.W.findIn K (.ref (He.ga K x)) f = some none) (List.all_eq_true.mp h2 f hf)⟩, hm.mak, hm.gC⟩, hk⟩
end PDH

namespace LX
open PySem PySem.Spec PyProof.Rows L2 PD
def topS (i : Nat) : Stmt := PySem.Challenge.pw_greedycuts_k38_whole_pieces.main.body.getD i (.Pass ⟨0, 0, 0, 0⟩)
abbrev s_BadValue : Stmt := clsS (topS 2) 0
theorem sc_BadValue : FnScope ["self", "name"] ["self", "name"] (defScope s_BadValue) := ⟨rfl, rfl, rfl, by decide +kernel, rfl, by decide +kernel, by decide +kernel⟩
abbrev s_is_word : Stmt := topS 11
abbrev n_is_word : List Str := ["value", "letter"]
theorem sc_is_word : FnScope n_is_word ["value"] (defScope s_is_word) := ⟨rfl, rfl, rfl, by decide +kernel, rfl, by decide +kernel, by decide +kernel⟩
abbrev s_is_plain_integer : Stmt := topS 9
abbrev n_is_plain_integer : List Str := ["value"]
theorem sc_is_plain_integer : FnScope n_is_plain_integer ["value"] (defScope s_is_plain_integer) := ⟨rfl, rfl, rfl, by decide +kernel, rfl, by decide +kernel, by decide +kernel⟩
abbrev s_is_integer : Stmt := topS 10
abbrev n_is_integer : List Str := ["value", "low", "high"]
theorem sc_is_integer : FnScope n_is_integer ["value", "low", "high"] (defScope s_is_integer) := ⟨rfl, rfl, rfl, by decide +kernel, rfl, by decide +kernel, by decide +kernel⟩
abbrev s_is_entry : Stmt := topS 12
abbrev n_is_entry : List Str := ["value"]
theorem sc_is_entry : FnScope n_is_entry ["value"] (defScope s_is_entry) := ⟨rfl, rfl, rfl, by decide +kernel, rfl, by decide +kernel, by decide +kernel⟩
abbrev s_is_list : Stmt := topS 13
abbrev n_is_list : List Str := ["value", "pair", "spelled", "word", "letter"]
theorem sc_is_list : FnScope n_is_list ["value"] (defScope s_is_list) := ⟨rfl, rfl, rfl, by decide +kernel, rfl, by decide +kernel, by decide +kernel⟩
abbrev s_check_list : Stmt := topS 17
abbrev n_check_list : List Str := ["words"]
theorem sc_check_list : FnScope n_check_list ["words"] (defScope s_check_list) := ⟨rfl, rfl, rfl, by decide +kernel, rfl, by decide +kernel, by decide +kernel⟩
abbrev s_may_grow : Stmt := topS 24
abbrev n_may_grow : List Str := ["words", "text", "index", "rest", "word", "cost"]
theorem sc_may_grow : FnScope n_may_grow ["words", "text", "index"] (defScope s_may_grow) := ⟨rfl, rfl, rfl, by decide +kernel, rfl, by decide +kernel, by decide +kernel⟩
abbrev s_find_starting : Stmt := topS 20
abbrev n_find_starting : List Str := ["words", "text", "index", "word", "cost"]
theorem sc_find_starting : FnScope n_find_starting ["words", "text", "index"] (defScope s_find_starting) := ⟨rfl, rfl, rfl, by decide +kernel, rfl, by decide +kernel, by decide +kernel⟩
abbrev s_read_letters : Stmt := topS 25
abbrev n_read_letters : List Str := ["words", "held", "letters", "text", "given", "index", "word"]
theorem sc_read_letters : FnScope n_read_letters ["words", "held", "letters"] (defScope s_read_letters) := ⟨rfl, rfl, rfl, by decide +kernel, rfl, by decide +kernel, by decide +kernel⟩
abbrev s_find_letters : Stmt := topS 14
abbrev n_find_letters : List Str := ["words", "word", "cost"]
theorem sc_find_letters : FnScope n_find_letters ["words"] (defScope s_find_letters) := ⟨rfl, rfl, rfl, by decide +kernel, rfl, by decide +kernel, by decide +kernel⟩
abbrev s_has_letters : Stmt := topS 15
abbrev n_has_letters : List Str := ["words", "value", "letters", "letter"]
theorem sc_has_letters : FnScope n_has_letters ["words", "value"] (defScope s_has_letters) := ⟨rfl, rfl, rfl, by decide +kernel, rfl, by decide +kernel, by decide +kernel⟩
abbrev s_fits : Stmt := topS 16
abbrev n_fits : List Str := ["words", "value"]
theorem sc_fits : FnScope n_fits ["words", "value"] (defScope s_fits) := ⟨rfl, rfl, rfl, by decide +kernel, rfl, by decide +kernel, by decide +kernel⟩
abbrev s_find_match : Stmt := topS 22
abbrev n_find_match : List Str := ["words", "text", "index", "match_words", "word"]
theorem sc_find_match : FnScope n_find_match ["words", "text", "index"] (defScope s_find_match) := ⟨rfl, rfl, rfl, by decide +kernel, rfl, by decide +kernel, by decide +kernel⟩
abbrev s__law_next : Stmt := topS 30
abbrev n__law_next : List Str := ["stream", "many", "k", "cell", "digit"]
theorem sc__law_next : FnScope n__law_next ["stream", "many"] (defScope s__law_next) := ⟨rfl, rfl, rfl, by decide +kernel, rfl, by decide +kernel, by decide +kernel⟩
abbrev s__law_letters : Stmt := topS 33
abbrev n__law_letters : List Str := ["stream", "alphabet", "found", "turn", "letter"]
theorem sc__law_letters : FnScope n__law_letters ["stream"] (defScope s__law_letters) := ⟨rfl, rfl, rfl, by decide +kernel, rfl, by decide +kernel, by decide +kernel⟩
abbrev s__law_words : Stmt := topS 35
abbrev n__law_words : List Str := ["stream", "letters", "found", "turn", "word", "k"]
theorem sc__law_words : FnScope n__law_words ["stream", "letters"] (defScope s__law_words) := ⟨rfl, rfl, rfl, by decide +kernel, rfl, by decide +kernel, by decide +kernel⟩
abbrev s__law_is_integer : Stmt := topS 31
abbrev n__law_is_integer : List Str := ["actual"]
theorem sc__law_is_integer : FnScope n__law_is_integer ["actual"] (defScope s__law_is_integer) := ⟨rfl, rfl, rfl, by decide +kernel, rfl, by decide +kernel, by decide +kernel⟩
abbrev s__law_equal : Stmt := topS 32
abbrev n__law_equal : List Str := ["actual", "due", "at"]
theorem sc__law_equal : FnScope n__law_equal ["actual", "due"] (defScope s__law_equal) := ⟨rfl, rfl, rfl, by decide +kernel, rfl, by decide +kernel, by decide +kernel⟩
abbrev s_check_text : Stmt := topS 18
abbrev n_check_text : List Str := ["words", "text"]
theorem sc_check_text : FnScope n_check_text ["words", "text"] (defScope s_check_text) := ⟨rfl, rfl, rfl, by decide +kernel, rfl, by decide +kernel, by decide +kernel⟩
abbrev s_after : Stmt := topS 26
abbrev n_after : List Str := ["words", "text", "given", "held"]
theorem sc_after : FnScope n_after ["words", "text"] (defScope s_after) := ⟨rfl, rfl, rfl, by decide +kernel, rfl, by decide +kernel, by decide +kernel⟩
abbrev s__law_string : Stmt := topS 34
abbrev n__law_string : List Str := ["stream", "letters", "most", "k"]
theorem sc__law_string : FnScope n__law_string ["stream", "letters", "most"] (defScope s__law_string) := ⟨rfl, rfl, rfl, by decide +kernel, rfl, by decide +kernel, by decide +kernel⟩
abbrev s__law_extending : Stmt := topS 37
abbrev n__law_extending : List Str := ["words", "held", "word", "cost"]
theorem sc__law_extending : FnScope n__law_extending ["words", "held"] (defScope s__law_extending) := ⟨rfl, rfl, rfl, by decide +kernel, rfl, by decide +kernel, by decide +kernel⟩
abbrev s__law_longest : Stmt := topS 36
abbrev n__law_longest : List Str := ["words", "text", "row", "rest", "turn", "best", "word", "cost"]
theorem sc__law_longest : FnScope n__law_longest ["words", "text"] (defScope s__law_longest) := ⟨rfl, rfl, rfl, by decide +kernel, rfl, by decide +kernel, by decide +kernel⟩
abbrev s__law_after : Stmt := topS 38
abbrev n__law_after : List Str := ["words", "text", "given", "held", "letter", "turn", "word"]
theorem sc__law_after : FnScope n__law_after ["words", "text"] (defScope s__law_after) := ⟨rfl, rfl, rfl, by decide +kernel, rfl, by decide +kernel, by decide +kernel⟩
abbrev s_Reader_init : Stmt := clsS (topS 27) 0
abbrev n_Reader_init : List Str := ["self", "words"]
theorem sc_Reader_init : FnScope n_Reader_init ["self", "words"] (defScope s_Reader_init) := ⟨rfl, rfl, rfl, by decide +kernel, rfl, by decide +kernel, by decide +kernel⟩
abbrev s_Reader_read : Stmt := clsS (topS 27) 1
abbrev n_Reader_read : List Str := ["self", "piece", "given"]
theorem sc_Reader_read : FnScope n_Reader_read ["self", "piece"] (defScope s_Reader_read) := ⟨rfl, rfl, rfl, by decide +kernel, rfl, by decide +kernel, by decide +kernel⟩
abbrev s_Reader_held : Stmt := clsS (topS 27) 2
abbrev n_Reader_held : List Str := ["self"]
theorem sc_Reader_held : FnScope n_Reader_held ["self"] (defScope s_Reader_held) := ⟨rfl, rfl, rfl, by decide +kernel, rfl, by decide +kernel, by decide +kernel⟩
abbrev s_Reader_finish : Stmt := clsS (topS 27) 3
abbrev n_Reader_finish : List Str := ["self", "given"]
theorem sc_Reader_finish : FnScope n_Reader_finish ["self"] (defScope s_Reader_finish) := ⟨rfl, rfl, rfl, by decide +kernel, rfl, by decide +kernel, by decide +kernel⟩
abbrev s__law_told : Stmt := topS 39
abbrev n__law_told : List Str := ["reader", "piece", "e"]
theorem sc__law_told : FnScope n__law_told ["reader", "piece"] (defScope s__law_told) := ⟨rfl, rfl, rfl, by decide +kernel, rfl, by decide +kernel, by decide +kernel⟩
abbrev s_law : Stmt := topS 40
abbrev n_law : List Str := ["script", "stream", "letters", "words", "reader", "other", "apart", "turn", "text", "told", "k", "piece", "new", "given", "held", "bad", "rest"]
theorem sc_law : FnScope n_law ["script"] (defScope s_law) := ⟨rfl, rfl, rfl, by decide +kernel, rfl, by decide +kernel, by decide +kernel⟩
abbrev s__law_stream : Stmt := topS 29
theorem sc__law_stream : FnScope ["script"] ["script"] (defScope s__law_stream) := ⟨rfl, rfl, rfl, by decide +kernel, rfl, by decide +kernel, by decide +kernel⟩
abbrev m_is_word : MS' := (mSeq (mIf (mOrT (mNotT (mTru (mIs "str" (mVar 0)))) (mNotT (mTest (mChain gLe gLe (mC (.int 1)) (mB gLenA (mCons (mVar 0) mNil)) (mC (.int 4)))))) (mRet (mC (.bl false))) mNext) (mRet (mB gAll (mCons (mLc (mIt (mVar 0)) (bNm 1) mYes (m2 gInA (mVar 1) (mC (.str "abcdefghijklmnopqrstuvwxyz"))) [1]) mNil))))
def p_is_word : Phi := runM n_is_word 1 m_is_word
abbrev m_is_plain_integer : MS' := (mRet (mAndV (mIs "int" (mVar 0)) (mNotV (mIs "bool" (mVar 0)))))
def p_is_plain_integer : Phi := runM n_is_plain_integer 1 m_is_plain_integer
abbrev m_is_integer : MS' := (mRet (mAndV (mCall p_is_plain_integer (mCons (mVar 0) mNil)) (mChain gLe gLe (mVar 1) (mVar 0) (mVar 2))))
def p_is_integer : Phi := runM n_is_integer 3 m_is_integer
abbrev m_is_entry : MS' := (mSeq (mIf (mOrT (mNotT (mTru (mIs "tuple" (mVar 0)))) (mTest (m2 (gEq true) (mB gLenA (mCons (mVar 0) mNil)) (mC (.int 2))))) (mRet (mC (.bl false))) mNext) (mRet (mAndV (mCall p_is_word (mCons (m2 gIxA (mVar 0) (mC (.int 0))) mNil)) (mCall p_is_integer (mCons (m2 gIxA (mVar 0) (mC (.int 1))) (mCons (mC (.int 1)) (mCons (mC (.int 9)) mNil)))))))
def p_is_entry : Phi := runM n_is_entry 1 m_is_entry
abbrev m_is_list : MS' := (mSeq (mIf (mOrT (mNotT (mTru (mIs "tuple" (mVar 0)))) (mNotT (mTest (mChain gLe gLe (mC (.int 1)) (mB gLenA (mCons (mVar 0) mNil)) (mC (.int 8)))))) (mRet (mC (.bl false))) mNext) (mSeq (mIf (mNotT (mTru (mB gAll (mCons (mLc (mIt (mVar 0)) (bNm 1) mYes (mCall p_is_entry (mCons (mVar 1) mNil)) [1]) mNil)))) (mRet (mC (.bl false))) mNext) (mSeq (mSet 2 (mLc (mIt (mVar 0)) (bNm 1) mYes (m2 gIxA (mVar 1) (mC (.int 0))) [1])) (mSeq (mIf (mTest (m2 (gEq true) (mVar 2) (mSortSet (mVar 2)))) (mRet (mC (.bl false))) mNext) (mRet (mB gAll (mCons (mLc2 (mIt (mVar 2)) (bNm 3) mYes (mIt (mVar 3)) (bNm 4) mYes (m2 gInA (mVar 4) (mVar 2)) [3, 4] [4]) mNil)))))))
def p_is_list : Phi := runM n_is_list 1 m_is_list
abbrev m_check_list : MS' := (mIf (mNotT (mTru (mCall p_is_list (mCons (mVar 0) mNil)))) mNo mNext)
def p_check_list : Phi := runM n_check_list 1 m_check_list
abbrev m_may_grow : MS' := (mSeq (mSet 3 (mSl (mVar 1) (mP (mVar 2)) (mP (m2 gAdd (mVar 2) (mC (.int 4)))))) (mRet (mB gAny (mCons (mLc (mIt (mVar 0)) (bTup 2 (bCons (bNm 4) (bCons (bNm 5) bNil))) mYes (mAndV (m2 gGt (mB gLenA (mCons (mVar 4) mNil)) (mB gLenA (mCons (mVar 3) mNil))) (mM gStarts (mVar 4) (mCons (mVar 3) mNil))) [4, 5]) mNil))))
def p_may_grow : Phi := runM n_may_grow 3 m_may_grow
abbrev m_find_starting : MS' := (mRet (mLc (mIt (mVar 0)) (bTup 2 (bCons (bNm 3) (bCons (bNm 4) bNil))) (mTru (mM gStarts (mVar 1) (mCons (mVar 3) (mCons (mVar 2) mNil)))) (mVar 3) [3, 4]))
def p_find_starting : Phi := runM n_find_starting 3 m_find_starting
abbrev m_read_letters : MS' := (mSeq (mSet 3 (m2 gAdd (mVar 1) (mVar 2))) (mSeq (mSetN 4 (mLst mNil)) (mSeq (mSet 5 (mC (.int 0))) (mSeq (whGo (mAndT (mTest (m2 gLt (mVar 5) (mB gLenA (mCons (mVar 3) mNil)))) (mNotT (mTru (mCall p_may_grow (mCons (mVar 0) (mCons (mVar 3) (mCons (mVar 5) mNil))))))) (mSeq (mSet 6 (m2 gIxA (mCall p_find_starting (mCons (mVar 0) (mCons (mVar 3) (mCons (mVar 5) mNil)))) (mNeg (mC (.int 1))))) (mSeq (mApp 4 (mVar 6)) (mAug 5 (gI0 fun i j => .int (i + j)) (mB gLenA (mCons (mVar 6) mNil))))) 1000) (mFrz 4 (mRet (mTup (mCons (mVar 4) (mCons (mSl (mVar 3) (mP (mVar 5)) mNoP) mNil)))))))))
def p_read_letters : Phi := runM n_read_letters 3 m_read_letters
abbrev m_find_letters : MS' := (mRet (mM gJoin (mC (.str "")) (mCons (mLc (mIt (mVar 0)) (bTup 2 (bCons (bNm 1) (bCons (bNm 2) bNil))) (mTest (m2 (gEq false) (mB gLenA (mCons (mVar 1) mNil)) (mC (.int 1)))) (mVar 1) [1, 2]) mNil)))
def p_find_letters : Phi := runM n_find_letters 1 m_find_letters
abbrev m_has_letters : MS' := (mSeq (mIf (mNotT (mTru (mIs "str" (mVar 1)))) (mRet (mC (.bl false))) mNext) (mSeq (mSet 2 (mCall p_find_letters (mCons (mVar 0) mNil))) (mRet (mB gAll (mCons (mLc (mIt (mVar 1)) (bNm 3) mYes (m2 gInA (mVar 3) (mVar 2)) [3]) mNil)))))
def p_has_letters : Phi := runM n_has_letters 2 m_has_letters
abbrev m_fits : MS' := (mRet (mAndV (mCall p_has_letters (mCons (mVar 0) (mCons (mVar 1) mNil))) (m2 gLe (mB gLenA (mCons (mVar 1) mNil)) (mC (.int 30)))))
def p_fits : Phi := runM n_fits 2 m_fits
abbrev m_find_match : MS' := (mSeq (mSetN 3 (mLst mNil)) (mSeq (whGo (mTest (m2 gLt (mVar 2) (mB gLenA (mCons (mVar 1) mNil)))) (mSeq (mSet 4 (m2 gIxA (mCall p_find_starting (mCons (mVar 0) (mCons (mVar 1) (mCons (mVar 2) mNil)))) (mNeg (mC (.int 1))))) (mSeq (mApp 3 (mVar 4)) (mAug 2 (gI0 fun i j => .int (i + j)) (mB gLenA (mCons (mVar 4) mNil))))) 1000) (mFrz 3 (mRet (mB gTupB (mCons (mVar 3) mNil))))))
def p_find_match : Phi := runM n_find_match 3 m_find_match
abbrev m__law_next : MS' := (mSeq (mIf (mTest (m2 (gEq false) (mStr 0 1) (mC (.int 0)))) (mSeq (mSet 2 (mStr 0 2)) (mSeq (mSet 3 (m2 gAdd (mC (.int 7)) (mVar 2))) (mSeq (mIf (mTest (m2 gLt (mVar 2) (mB gLenA (mCons (mStr 0 0) mNil)))) (mSet 3 (mB gAbs (mCons (m2 gIxA (mStr 0 0) (mVar 2)) mNil))) mNext) (mSeq (mIf (mTest (m2 gLt (mVar 3) (m2 (gI cPow fun i j => .int (i ^ j.toNat)) (mC (.int 10)) (mC (.int 18))))) (mSeq (mSet 3 (m2 (gI (fun _ j => decide (0 < j)) fun i j => .int (i % j)) (mB gIntOf (mCons (m2 gAdd (m2 gAdd (m2 gMul (mVar 3) (mC (.int 48271))) (m2 gMul (mVar 2) (mC (.int 69621)))) (mC (.int 11))) mNil)) (mC (.int 2147483647)))) (mSet 3 (m2 gAdd (m2 gMul (m2 (gI (fun _ j => decide (0 < j)) fun i j => .int (i % j)) (mB gIntOf (mCons (m2 gAdd (m2 gMul (mVar 3) (mC (.int 16807))) (mC (.int 13))) mNil)) (mC (.int 2147483647))) (mC (.int 65537))) (mVar 3)))) mNext) (mSeq (mStrP 0 1 (mVar 3)) (mStrP 0 2 (m2 gAdd (mVar 2) (mC (.int 1))))))))) mNext) (mSeq (mSet 4 (m2 (gI (fun _ j => decide (0 < j)) fun i j => .int (i % j)) (mB gIntOf (mCons (mStr 0 1) mNil)) (mVar 1))) (mSeq (mStrP 0 1 (m2 (gI cDiv fun i j => .int (i / j)) (mStr 0 1) (mVar 1))) (mRetV 4))))
def p__law_next : Phi := runM n__law_next 2 m__law_next
abbrev m__law_letters : MS' := (mSeq (mSet 1 (mC (.str "abcdefghijklmnopqrstuvwxyz"))) (mSeq (mSetN 2 (mLst mNil)) (mSeq (mFor (mRng1 (mCons (m2 gAdd (mC (.int 1)) (mCall p__law_next (mCons (mVar 0) (mCons (mC (.int 3)) mNil)))) mNil)) (bNm 3) (mSeq (mSet 4 (m2 gIxA (mVar 1) (mCall p__law_next (mCons (mVar 0) (mCons (mC (.int 26)) mNil))))) (mIf (mTest (m2 gNotInA (mVar 4) (mVarB 2))) (mApp 2 (mVar 4)) mNext))) (mRetV 2))))
def p__law_letters : Phi := runM n__law_letters 1 m__law_letters
abbrev m__law_words : MS' := (mSeq (mSetN 2 (mB gLstA (mCons (mVar 1) mNil))) (mSeq (mFor (mRng1 (mCons (mCall p__law_next (mCons (mVar 0) (mCons (mC (.int 6)) mNil))) mNil)) (bNm 3) (mSeq (mSet 4 (mM gJoin (mC (.str "")) (mCons (mLc (mRng1 (mCons (m2 gAdd (mC (.int 2)) (mCall p__law_next (mCons (mVar 0) (mCons (mC (.int 3)) mNil)))) mNil)) (bNm 5) mYes (m2 gIxA (mVar 1) (mCall p__law_next (mCons (mVar 0) (mCons (mB gLenA (mCons (mVar 1) mNil)) mNil)))) [5]) mNil))) (mIf (mAndT (mTest (m2 gNotInA (mVar 4) (mVarB 2))) (mTest (m2 gLt (mB gLenA (mCons (mVarB 2) mNil)) (mC (.int 8))))) (mApp 2 (mVar 4)) mNext))) (mFrz 2 (mRet (mB gTupB (mCons (mLc (mIt (mB gSortD (mCons (mVar 2) mNil))) (bNm 4) mYes (mTup (mCons (mVar 4) (mCons (m2 gAdd (mC (.int 1)) (mCall p__law_next (mCons (mVar 0) (mCons (mC (.int 9)) mNil)))) mNil))) [4]) mNil))))))
def p__law_words : Phi := runM n__law_words 2 m__law_words
abbrev m__law_is_integer : MS' := (mRet (mAndV (mIs "int" (mVar 0)) (mNotV (mIs "bool" (mVar 0)))))
def p__law_is_integer : Phi := runM n__law_is_integer 1 m__law_is_integer
abbrev m__law_equal (φ : Phi) : MS' := (mSeq (mIf (mTest (m2 (gOr (gIsN false) (gIsB false)) (mVar 1) (mC .non))) (mRet (m2 (gOr (gIsN false) (gIsB false)) (mVar 0) (mC .non))) mNext) (mSeq (mIf (mTru (mIs "bool" (mVar 1))) (mRet (mAndV (mIs "bool" (mVar 0)) (m2 (gEq false) (mVar 0) (mVar 1)))) mNext) (mSeq (mIf (mTru (mIs "int" (mVar 1))) (mRet (mAndV (mCall p__law_is_integer (mCons (mVar 0) mNil)) (m2 (gEq false) (mVar 0) (mVar 1)))) mNext) (mSeq (mIf (mTru (mIs "str" (mVar 1))) (mRet (mAndV (mIs "str" (mVar 0)) (m2 (gEq false) (mVar 0) (mVar 1)))) mNext) (mSeq (mIf (mAndT (mTru (mIs "tuple" (mVar 1))) (mNotT (mTru (mIs "tuple" (mVar 0))))) (mRet (mC (.bl false))) mNext) (mSeq (mIf (mAndT (mTru (mIs "list" (mVar 1))) (mNotT (mTru (mIs "list" (mVar 0))))) (mRet (mC (.bl false))) mNext) (mSeq (mIf (mTest (m2 (gEq true) (mB gLenA (mCons (mVar 0) mNil)) (mB gLenA (mCons (mVar 1) mNil)))) (mRet (mC (.bl false))) mNext) (mRet (mB gAll (mCons (mLc (mRng1 (mCons (mB gLenA (mCons (mVar 1) mNil)) mNil)) (bNm 2) mYes (mCall φ (mCons (m2 gIxA (mVar 0) (mVar 2)) (mCons (m2 gIxA (mVar 1) (mVar 2)) mNil))) [2]) mNil))))))))))
def p__law_equal : Nat → Phi
  | 0 => fun _ _ => none
  | k + 1 => runM n__law_equal 2 (m__law_equal (p__law_equal k))
abbrev m_check_text : MS' := (mSeq (mDrop (mCall p_check_list (mCons (mVar 0) mNil))) (mIf (mNotT (mTru (mCall p_fits (mCons (mVar 0) (mCons (mVar 1) mNil))))) mNo mNext))
def p_check_text : Phi := runM n_check_text 2 m_check_text
abbrev m_after : MS' := (mSeq (mDrop (mCall p_check_text (mCons (mVar 0) (mCons (mVar 1) mNil)))) (mSeq (mAsg (bTup 2 (bCons (bNm 2) (bCons (bNm 3) bNil))) (mCall p_read_letters (mCons (mVar 0) (mCons (mC (.str "")) (mCons (mVar 1) mNil))))) (mRet (mTup (mCons (mB gTupB (mCons (mVar 2) mNil)) (mCons (mVar 3) mNil))))))
def p_after : Phi := runM n_after 2 m_after
abbrev m__law_string : MS' := (mRet (mM gJoin (mC (.str "")) (mCons (mLc (mRng1 (mCons (mCall p__law_next (mCons (mVar 0) (mCons (m2 gAdd (mVar 2) (mC (.int 1))) mNil))) mNil)) (bNm 3) mYes (m2 gIxA (mVar 1) (mCall p__law_next (mCons (mVar 0) (mCons (mB gLenA (mCons (mVar 1) mNil)) mNil)))) [3]) mNil)))
def p__law_string : Phi := runM n__law_string 3 m__law_string
abbrev m__law_extending : MS' := (mRet (mLc (mIt (mVar 0)) (bTup 2 (bCons (bNm 2) (bCons (bNm 3) bNil))) (mAndT (mTest (m2 gGt (mB gLenA (mCons (mVar 2) mNil)) (mB gLenA (mCons (mVar 1) mNil)))) (mTest (m2 (gEq false) (mSl (mVar 2) mNoP (mP (mB gLenA (mCons (mVar 1) mNil)))) (mVar 1)))) (mVar 2) [2, 3]))
def p__law_extending : Phi := runM n__law_extending 2 m__law_extending
abbrev m__law_longest : MS' := (mSeq (mSetN 2 (mLst mNil)) (mSeq (mSet 3 (mVar 1)) (mSeq (mFor (mRng1 (mCons (mB gLenA (mCons (mVar 1) mNil)) mNil)) (bNm 4) (mSeq (mIf (mTest (m2 (gEq false) (mVar 3) (mC (.str "")))) mBk mNext) (mSeq (mSet 5 (m2 gIxA (mVar 3) (mC (.int 0)))) (mSeq (mFor (mIt (mVar 0)) (bTup 2 (bCons (bNm 6) (bCons (bNm 7) bNil))) (mIf (mAndT (mTest (m2 (gEq false) (mSl (mVar 3) mNoP (mP (mB gLenA (mCons (mVar 6) mNil)))) (mVar 6))) (mTest (m2 gGt (mB gLenA (mCons (mVar 6) mNil)) (mB gLenA (mCons (mVar 5) mNil))))) (mSet 5 (mVar 6)) mNext)) (mSeq (mApp 2 (mVar 5)) (mSet 3 (mSl (mVar 3) (mP (mB gLenA (mCons (mVar 5) mNil))) mNoP))))))) (mRetV 2))))
def p__law_longest : Phi := runM n__law_longest 2 m__law_longest
abbrev m__law_after : MS' := (mSeq (mSetN 2 (mLst mNil)) (mSeq (mSet 3 (mC (.str ""))) (mSeq (mFor (mIt (mVar 1)) (bNm 4) (mSeq (mSet 3 (m2 gAdd (mVar 3) (mVar 4))) (mFor (mRng1 (mCons (mB gLenA (mCons (mVar 3) mNil)) mNil)) (bNm 5) (mSeq (mIf (mOrT (mTest (m2 (gEq false) (mVar 3) (mC (.str "")))) (mTru (mCall p__law_extending (mCons (mVar 0) (mCons (mVar 3) mNil))))) mBk mNext) (mSeq (mSet 6 (m2 gIxA (mCall p__law_longest (mCons (mVar 0) (mCons (mVar 3) mNil))) (mC (.int 0)))) (mSeq (mApp 2 (mVar 6)) (mSet 3 (mSl (mVar 3) (mP (mB gLenA (mCons (mVar 6) mNil))) mNoP)))))))) (mFrz 2 (mRet (mTup (mCons (mVar 2) (mCons (mVar 3) mNil))))))))
def p__law_after : Phi := runM n__law_after 2 m__law_after
abbrev m_Reader_init (C : Nat) : MF := (mSeqF (mDrop (mCall p_check_list (mCons (mVar 1) mNil))) (mSeqF (mPut C "_words" (mVar 1)) (mSeqF (mPut C "_letters" (mC (.str ""))) mEnd)))
def p_Reader_init (C : Nat) : PhiO := runO C n_Reader_init 2 (m_Reader_init C)
abbrev m_Reader_read (C : Nat) : MF := (mSeqF (mIf (mNotT (mTru (mCall p_fits (mCons (mFldC C 0 "_words") (mCons (mVar 1) mNil))))) mNo mNext) (mSeqF (mPut2 C 2 "_letters" (mCall p_read_letters (mCons (mFldC C 0 "_words") (mCons (mFldC C 0 "_letters") (mCons (mVar 1) mNil))))) (mFin (mVar 2))))
def p_Reader_read (C : Nat) : PhiO := runO C n_Reader_read 2 (m_Reader_read C)
abbrev mx_Reader_read (C : Nat) : MX := (mSeqX (mIfX (mNotT (mTru (mCall p_fits (mCons (mFldC C 0 "_words") (mCons (mVar 1) mNil))))) (mRaise 2 "name" (mCons (mC (.str "piece")) mNil)) (mLift mNext)) mStop)
def px_Reader_read (C : Nat) : PhiX := runX n_Reader_read 2 (mx_Reader_read C)
abbrev m_Reader_held (C : Nat) : MS' := (mRet (mFldC C 0 "_letters"))
def p_Reader_held (C : Nat) : Phi := runM n_Reader_held 1 (m_Reader_held C)
abbrev m_Reader_finish (C : Nat) : MF := (mSeqF (mSet 1 (mB gLstA (mCons (mCall p_find_match (mCons (mFldC C 0 "_words") (mCons (mFldC C 0 "_letters") (mCons (mC (.int 0)) mNil)))) mNil))) (mSeqF (mPut C "_letters" (mC (.str ""))) (mFin (mVar 1))))
def p_Reader_finish (C : Nat) : PhiO := runO C n_Reader_finish 1 (m_Reader_finish C)
abbrev mf_Reader_finish (C : Nat) : MS' := (mSeq (mSet 1 (mB gLstA (mCons (mCall p_find_match (mCons (mFldC C 0 "_words") (mCons (mFldC C 0 "_letters") (mCons (mC (.int 0)) mNil)))) mNil))) (mSeq (mPutSame C "_letters" (mC (.str ""))) (mRetV 1)))
def pf_Reader_finish (C : Nat) : Phi := runM n_Reader_finish 1 (mf_Reader_finish C)
abbrev m__law_told (C : Nat) : MS' := (mTry 2 (mMthX C (px_Reader_read C) 0 "read" (mCons (mVar 1) mNil)) (sdT 2 "bad" "name"))
def p__law_told (C : Nat) : Phi := runM n__law_told 2 (m__law_told C)
abbrev m_law (C : Nat) : MS' := (mSeq (mSet 2 (mCall p__law_letters (mCons (mVar 1) mNil))) (mSeq (mSet 3 (mCall p__law_words (mCons (mVar 1) (mCons (mVar 2) mNil)))) (mSeq (mSetN 4 (mMakeN C (p_Reader_init C) (mCons (mVar 3) mNil))) (mSeq (mSetN 5 (mMakeN C (p_Reader_init C) (mCons (mVar 3) mNil))) (mSeq (mSet 6 (mC (.str ""))) (mSeq (mFor (mRng1 (mCons (mC (.int 2)) mNil)) (bNm 7) (mSeq (mSet 8 (mC (.str ""))) (mSeq (mSet 9 (mLst mNil)) (mSeq (mFor (mRng1 (mCons (mCall p__law_next (mCons (mVar 1) (mCons (mC (.int 7)) mNil))) mNil)) (bNm 10) (mSeq (mSet 11 (mCall p__law_string (mCons (mVar 1) (mCons (mVar 2) (mCons (m2 gIxA (mLst (mCons (mC (.int 8)) (mCons (mC (.int 8)) (mCons (mC (.int 30)) mNil)))) (mCall p__law_next (mCons (mVar 1) (mCons (mC (.int 3)) mNil)))) mNil))))) (mSeq (mSet 8 (m2 gAdd (mVar 8) (mVar 11))) (mSeq (mMthS 12 (mMth C (p_Reader_read C) 4 "read" (mCons (mVar 11) mNil))) (mSeq (mIf (mNotT (mTru (mIs "list" (mVar 12)))) (mRet (mC (.bl false))) mNext) (mSeq (mSet 9 (m2 gCat (mVar 9) (mVar 12))) (mSeq (mAsg (bTup 2 (bCons (bNm 13) (bCons (bNm 14) bNil))) (mCall p__law_after (mCons (mVar 3) (mCons (mVar 8) mNil)))) (mSeq (mIf (mOrT (mNotT (mTru (mCall (p__law_equal 6) (mCons (mVar 9) (mCons (mVar 13) mNil))))) (mNotT (mTru (mCall (p__law_equal 6) (mCons (mMthB C (p_Reader_held C) 4 "held" mNil) (mCons (mVar 14) mNil)))))) (mRet (mC (.bl false))) mNext) (mSeq (mSet 15 (m2 gIxA (mLst (mCons (mC .non) (mCons (mC (.str "A")) (mCons (m2 gMul (m2 gIxA (mVar 2) (mC (.int 0))) (mC (.int 31))) (mCons (mC (.int 5)) (mCons (mLst (mCons (m2 gIxA (mVar 2) (mC (.int 0))) mNil)) mNil)))))) (mCall p__law_next (mCons (mVar 1) (mCons (mC (.int 5)) mNil))))) (mSeq (mIf (mOrT (mNotT (mTru (mCall (p__law_equal 6) (mCons (mCallB1 (p__law_told C) (mCons (mVarB 4) (mCons (mVar 15) mNil))) (mCons (mTup (mCons (mC (.str "bad")) (mCons (mC (.str "piece")) mNil))) mNil))))) (mNotT (mTru (mCall (p__law_equal 6) (mCons (mMthB C (p_Reader_held C) 4 "held" mNil) (mCons (mVar 14) mNil)))))) (mRet (mC (.bl false))) mNext) (mSeq (mSet 6 (m2 gAdd (mVar 6) (m2 gIxA (mVar 2) (mNeg (mC (.int 1)))))) (mSeq (mMthD (mMth C (p_Reader_read C) 5 "read" (mCons (m2 gIxA (mVar 2) (mNeg (mC (.int 1)))) mNil))) (mIf (mOrT (mNotT (mTru (mCall (p__law_equal 6) (mCons (mMthB C (p_Reader_held C) 5 "held" mNil) (mCons (m2 gIxA (mCall p__law_after (mCons (mVar 3) (mCons (mVar 6) mNil))) (mC (.int 1))) mNil))))) (mNotT (mTru (mCall (p__law_equal 6) (mCons (mMthB C (p_Reader_held C) 4 "held" mNil) (mCons (mVar 14) mNil)))))) (mRet (mC (.bl false))) mNext))))))))))))) (mSeq (mMthS 16 (mMth C (p_Reader_finish C) 4 "finish" mNil)) (mSeq (mIf (mOrT (mNotT (mTru (mCall (p__law_equal 6) (mCons (m2 gCat (mVar 9) (mVar 16)) (mCons (mCall p__law_longest (mCons (mVar 3) (mCons (mVar 8) mNil))) mNil))))) (mNotT (mTru (mCall (p__law_equal 6) (mCons (mMthB C (p_Reader_held C) 4 "held" mNil) (mCons (mC (.str "")) mNil)))))) (mRet (mC (.bl false))) mNext) (mIf (mOrT (mNotT (mTru (mCall (p__law_equal 6) (mCons (mMthB C (pf_Reader_finish C) 4 "finish" mNil) (mCons (mLst mNil) mNil))))) (mNotT (mTru (mCall (p__law_equal 6) (mCons (mMthB C (p_Reader_held C) 5 "held" mNil) (mCons (m2 gIxA (mCall p__law_after (mCons (mVar 3) (mCons (mVar 6) mNil))) (mC (.int 1))) mNil)))))) (mRet (mC (.bl false))) mNext))))))) (mRet (mCall (p__law_equal 6) (mCons (mCall p_after (mCons (mVar 3) (mCons (mC (.str "")) mNil))) (mCons (mTup (mCons (mTup mNil) (mCons (mC (.str "")) mNil))) mNil))))))))))
structure Top (K : PySem.W.Frag) (mg : Str → Option Value) (fa : Nat → Addr) (fd : Nat → FuncData) : Prop where
  F_is_word : Fun K "is_word" "is_word" s_is_word (fa 11) (fd 11)
  b_is_word : Binds K (fd 11) ["value"] []
  g_is_word : mg "is_word" = some (.ref (fa 11))
  F_is_plain_integer : Fun K "is_plain_integer" "is_plain_integer" s_is_plain_integer (fa 9) (fd 9)
  b_is_plain_integer : Binds K (fd 9) ["value"] []
  g_is_plain_integer : mg "is_plain_integer" = some (.ref (fa 9))
  F_is_integer : Fun K "is_integer" "is_integer" s_is_integer (fa 10) (fd 10)
  b_is_integer : Binds K (fd 10) ["value", "low", "high"] []
  g_is_integer : mg "is_integer" = some (.ref (fa 10))
  F_is_entry : Fun K "is_entry" "is_entry" s_is_entry (fa 12) (fd 12)
  b_is_entry : Binds K (fd 12) ["value"] []
  g_is_entry : mg "is_entry" = some (.ref (fa 12))
  F_is_list : Fun K "is_list" "is_list" s_is_list (fa 13) (fd 13)
  b_is_list : Binds K (fd 13) ["value"] []
  g_is_list : mg "is_list" = some (.ref (fa 13))
  F_check_list : Fun K "check_list" "check_list" s_check_list (fa 17) (fd 17)
  b_check_list : Binds K (fd 17) ["words"] []
  g_check_list : mg "check_list" = some (.ref (fa 17))
  F_may_grow : Fun K "may_grow" "may_grow" s_may_grow (fa 24) (fd 24)
  b_may_grow : Binds K (fd 24) ["words", "text", "index"] []
  g_may_grow : mg "may_grow" = some (.ref (fa 24))
  F_find_starting : Fun K "find_starting" "find_starting" s_find_starting (fa 20) (fd 20)
  b_find_starting : Binds K (fd 20) ["words", "text", "index"] []
  g_find_starting : mg "find_starting" = some (.ref (fa 20))
  F_read_letters : Fun K "read_letters" "read_letters" s_read_letters (fa 25) (fd 25)
  b_read_letters : Binds K (fd 25) ["words", "held", "letters"] []
  g_read_letters : mg "read_letters" = some (.ref (fa 25))
  F_find_letters : Fun K "find_letters" "find_letters" s_find_letters (fa 14) (fd 14)
  b_find_letters : Binds K (fd 14) ["words"] []
  g_find_letters : mg "find_letters" = some (.ref (fa 14))
  F_has_letters : Fun K "has_letters" "has_letters" s_has_letters (fa 15) (fd 15)
  b_has_letters : Binds K (fd 15) ["words", "value"] []
  g_has_letters : mg "has_letters" = some (.ref (fa 15))
  F_fits : Fun K "fits" "fits" s_fits (fa 16) (fd 16)
  b_fits : Binds K (fd 16) ["words", "value"] []
  g_fits : mg "fits" = some (.ref (fa 16))
  F_find_match : Fun K "find_match" "find_match" s_find_match (fa 22) (fd 22)
  b_find_match : Binds K (fd 22) ["words", "text", "index"] []
  g_find_match : mg "find_match" = some (.ref (fa 22))
  F__law_next : Fun K "_law_next" "_law_next" s__law_next (fa 30) (fd 30)
  b__law_next : Binds K (fd 30) ["stream", "many"] []
  g__law_next : mg "_law_next" = some (.ref (fa 30))
  F__law_letters : Fun K "_law_letters" "_law_letters" s__law_letters (fa 33) (fd 33)
  b__law_letters : Binds K (fd 33) ["stream"] []
  g__law_letters : mg "_law_letters" = some (.ref (fa 33))
  F__law_words : Fun K "_law_words" "_law_words" s__law_words (fa 35) (fd 35)
  b__law_words : Binds K (fd 35) ["stream", "letters"] []
  g__law_words : mg "_law_words" = some (.ref (fa 35))
  F__law_is_integer : Fun K "_law_is_integer" "_law_is_integer" s__law_is_integer (fa 31) (fd 31)
  b__law_is_integer : Binds K (fd 31) ["actual"] []
  g__law_is_integer : mg "_law_is_integer" = some (.ref (fa 31))
  F__law_equal : Fun K "_law_equal" "_law_equal" s__law_equal (fa 32) (fd 32)
  b__law_equal : Binds K (fd 32) ["actual", "due"] []
  g__law_equal : mg "_law_equal" = some (.ref (fa 32))
  F_check_text : Fun K "check_text" "check_text" s_check_text (fa 18) (fd 18)
  b_check_text : Binds K (fd 18) ["words", "text"] []
  g_check_text : mg "check_text" = some (.ref (fa 18))
  F_after : Fun K "after" "after" s_after (fa 26) (fd 26)
  b_after : Binds K (fd 26) ["words", "text"] []
  g_after : mg "after" = some (.ref (fa 26))
  F__law_string : Fun K "_law_string" "_law_string" s__law_string (fa 34) (fd 34)
  b__law_string : Binds K (fd 34) ["stream", "letters", "most"] []
  g__law_string : mg "_law_string" = some (.ref (fa 34))
  F__law_extending : Fun K "_law_extending" "_law_extending" s__law_extending (fa 37) (fd 37)
  b__law_extending : Binds K (fd 37) ["words", "held"] []
  g__law_extending : mg "_law_extending" = some (.ref (fa 37))
  F__law_longest : Fun K "_law_longest" "_law_longest" s__law_longest (fa 36) (fd 36)
  b__law_longest : Binds K (fd 36) ["words", "text"] []
  g__law_longest : mg "_law_longest" = some (.ref (fa 36))
  F__law_after : Fun K "_law_after" "_law_after" s__law_after (fa 38) (fd 38)
  b__law_after : Binds K (fd 38) ["words", "text"] []
  g__law_after : mg "_law_after" = some (.ref (fa 38))
  F__law_told : Fun K "_law_told" "_law_told" s__law_told (fa 39) (fd 39)
  b__law_told : Binds K (fd 39) ["reader", "piece"] []
  g__law_told : mg "_law_told" = some (.ref (fa 39))
  F__law_stream : Fun K "_law_stream" "_law_stream" s__law_stream (fa 29) (fd 29)
  b__law_stream : Binds K (fd 29) ["script"] []
  g__law_stream : mg "_law_stream" = some (.ref (fa 29))
  F_law : Fun K "law" "law" s_law (fa 40) (fd 40)
  b_law : Binds K (fd 40) ["script"] []
  g_law : mg "law" = some (.ref (fa 40))
  x_BadValue : XCls K mg "BadValue" "name" (fa 2) (fa 1002)
  F_BadValue : Fun K "__init__" "BadValue.__init__" s_BadValue (fa 1002) (fd 1002)
  b_BadValue : Binds K (fd 1002) ["self", "name"] []
  o_Reader : OKls K mg "Reader" (fa 27) (fa 1027) ["_words", "_letters"]
  F_Reader_init : Fun K "__init__" "Reader.__init__" s_Reader_init (fa 1027) (fd 1027)
  b_Reader_init : Binds K (fd 1027) ["self", "words"] []
  M_Reader_read : Meth K (fa 27) "read" (fa 3351)
  F_Reader_read : Fun K "read" "Reader.read" s_Reader_read (fa 3351) (fd 3351)
  b_Reader_read : Binds K (fd 3351) ["self", "piece"] []
  M_Reader_held : Meth K (fa 27) "held" (fa 3352)
  F_Reader_held : Fun K "held" "Reader.held" s_Reader_held (fa 3352) (fd 3352)
  b_Reader_held : Binds K (fd 3352) ["self"] []
  M_Reader_finish : Meth K (fa 27) "finish" (fa 3353)
  F_Reader_finish : Fun K "finish" "Reader.finish" s_Reader_finish (fa 3353) (fd 3353)
  b_Reader_finish : Binds K (fd 3353) ["self"] []
  gc_BadValue : mg "BadValue" = some (.ref (fa 2))
  e_BadValue_BadValue : PySem.W.exmOne K (.ref (fa 2)) (.ref (fa 2)) = some true
  z_abs : mg "abs" = none
  z_all : mg "all" = none
  z_any : mg "any" = none
  z_bool : mg "bool" = none
  z_int : mg "int" = none
  z_isinstance : mg "isinstance" = none
  z_len : mg "len" = none
  z_list : mg "list" = none
  z_range : mg "range" = none
  z_set : mg "set" = none
  z_sorted : mg "sorted" = none
  z_str : mg "str" = none
  z_tuple : mg "tuple" = none
  c_DEAREST : ∃ t, mg "DEAREST" = some (.int 9 t)
  c_LETTERS : ∃ t, mg "LETTERS" = some (.str "abcdefghijklmnopqrstuvwxyz" t)
  c_LONGEST_TEXT : ∃ t, mg "LONGEST_TEXT" = some (.int 30 t)
  c_LONGEST_WORD : ∃ t, mg "LONGEST_WORD" = some (.int 4 t)
  c_MOST_WORDS : ∃ t, mg "MOST_WORDS" = some (.int 8 t)
section
variable {P : Program} {w : World} {K : PySem.W.Frag} {mg : Str → Option Value} {base : Heap} {fa : Nat → Addr} {fd : Nat → FuncData}
theorem ok_init_BadValue (T : Top K mg fa fd) : FnOk P w K mg base CX0 1 (fa 1002) (fd 1002) ["self", "name"] (spInit K "name") := ok_initX T.F_BadValue sc_BadValue rfl
theorem ok_is_word (T : Top K mg fa fd) : FnOk P w K mg base CX0 1 (fa 11) (fd 11) ["value"] (Good p_is_word) :=
  fn_good (k := 0) T.F_is_word sc_is_word fun cdv A outer s H E hr => ⟨_, (pds_cons (pd_if (PDW.pt (pw_orD (pt_notD (pt_truK (K := K) (PDE.b (pd_isiK (K := K) (PDE.b (pd_var 0)) (by exact rfl) T.z_isinstance (by exact rfl) T.z_str (by decide +kernel) (by decide +kernel))))) (pw_or1D (pt_notD (pt_chainD po_le po_le (PDE.b pd_int) (PDE.b (pd_b (call_lenA (K := K)) cs_lenA (by exact rfl) T.z_len (by decide +kernel) (pdb_cons (PDE.b (pd_var 0)) pdb_nil))) (PDE.b (pd_gInt T.c_LONGEST_WORD))))))) (pds_one (pds_ret pd_bl)) pds_nil) (pds_one (pds_ret (pd_b (cr_all rfl) cs_all (by exact rfl) T.z_all (by decide +kernel) (pdb_cons (PDE.b (PDN.e (pn_lc (own := [("letter", 1)]) rfl sc_is_word.nd (blkOk_by (own := [("letter", 1)]) (N := n_is_word) (sc := (defScope s_is_word)) (by decide +kernel)) (pi_anyK (K := K) (PDE.b (pd_var 0))) (fun _ _ _ _ _ => (pdg_nm (i := 1) sc_is_word.nd rfl (by first | exact Or.inl rfl | exact Or.inr rfl))) (fun _ _ _ _ _ => pts0) (fun _ _ _ _ _ => (pd_cmp (po_inD (K := K) hr) (PDE.b (pd_var 1)) (PDE.b (pd_gStr T.c_LETTERS)) (by rfl)))))) pdb_nil)))))⟩
theorem ok_is_plain_integer (T : Top K mg fa fd) : FnOk P w K mg base CX0 1 (fa 9) (fd 9) ["value"] (Good p_is_plain_integer) :=
  fn_good (k := 0) T.F_is_plain_integer sc_is_plain_integer fun cdv A outer s H E hr => ⟨_, (pds_one (pds_ret (pd_and (pd_isiK (K := K) (PDE.b (pd_var 0)) (by exact rfl) T.z_isinstance (by exact rfl) T.z_int (by decide +kernel) (by decide +kernel)) (pd_one (pd_notK (K := K) (PDE.b (pd_isiK (K := K) (PDE.b (pd_var 0)) (by exact rfl) T.z_isinstance (by exact rfl) T.z_bool (by decide +kernel) (by decide +kernel))))))))⟩
theorem ok_is_integer (T : Top K mg fa fd) : FnOk P w K mg base CX0 2 (fa 10) (fd 10) ["value", "low", "high"] (Good p_is_integer) :=
  fn_good (k := 1) T.F_is_integer sc_is_integer fun cdv A outer s H E hr => ⟨_, (pds_one (pds_ret (pd_and (pd_call (ok_is_plain_integer T) (hr.mono (by decide)) (by exact rfl) T.g_is_plain_integer T.F_is_plain_integer.kp T.b_is_plain_integer (pda_cons (pd_var 0) pda_nil)) (pd_one (pd_chain po_le po_le (PDE.b (pd_var 1)) (PDE.b (pd_var 0)) (PDE.b (pd_var 2)))))))⟩
theorem ok_is_entry (T : Top K mg fa fd) : FnOk P w K mg base CX0 3 (fa 12) (fd 12) ["value"] (Good p_is_entry) :=
  fn_good (k := 2) T.F_is_entry sc_is_entry fun cdv A outer s H E hr => ⟨_, (pds_cons (pd_if (PDW.pt (pw_orD (pt_notD (pt_truK (K := K) (PDE.b (pd_isiK (K := K) (PDE.b (pd_var 0)) (by exact rfl) T.z_isinstance (by exact rfl) T.z_tuple (by decide +kernel) (by decide +kernel))))) (pw_or1D (pt_cmpD (po_neK (K := K) hr) (PDE.b (pd_b (call_lenA (K := K)) cs_lenA (by exact rfl) T.z_len (by decide +kernel) (pdb_cons (PDE.b (pd_var 0)) pdb_nil))) (PDE.b pd_int) (nomark _))))) (pds_one (pds_ret pd_bl)) pds_nil) (pds_one (pds_ret (pd_and (pd_call (ok_is_word T) (hr.mono (by decide)) (by exact rfl) T.g_is_word T.F_is_word.kp T.b_is_word (pda_cons (pd_ixA (K := K) hr (PDE.b (pd_var 0)) (PDE.b pd_int)) pda_nil)) (pd_one (pd_call (ok_is_integer T) (hr.mono (by decide)) (by exact rfl) T.g_is_integer T.F_is_integer.kp T.b_is_integer (pda_cons (pd_ixA (K := K) hr (PDE.b (pd_var 0)) (PDE.b pd_int)) (pda_cons pd_int (pda_cons (pd_gInt T.c_DEAREST) pda_nil)))))))))⟩
theorem ok_is_list (T : Top K mg fa fd) : FnOk P w K mg base CX0 4 (fa 13) (fd 13) ["value"] (Good p_is_list) :=
  fn_good (k := 3) T.F_is_list sc_is_list fun cdv A outer s H E hr => ⟨_, (pds_cons (pd_if (PDW.pt (pw_orD (pt_notD (pt_truK (K := K) (PDE.b (pd_isiK (K := K) (PDE.b (pd_var 0)) (by exact rfl) T.z_isinstance (by exact rfl) T.z_tuple (by decide +kernel) (by decide +kernel))))) (pw_or1D (pt_notD (pt_chainD po_le po_le (PDE.b pd_int) (PDE.b (pd_b (call_lenA (K := K)) cs_lenA (by exact rfl) T.z_len (by decide +kernel) (pdb_cons (PDE.b (pd_var 0)) pdb_nil))) (PDE.b (pd_gInt T.c_MOST_WORDS))))))) (pds_one (pds_ret pd_bl)) pds_nil) (pds_cons (pd_if (pt_notD (pt_truK (K := K) (PDE.b (pd_b (cr_all rfl) cs_all (by exact rfl) T.z_all (by decide +kernel) (pdb_cons (PDE.b (PDN.e (pn_lc (own := [("pair", 1)]) rfl sc_is_list.nd (blkOk_by (own := [("pair", 1)]) (N := n_is_list) (sc := (defScope s_is_list)) (by decide +kernel)) (pi_anyK (K := K) (PDE.b (pd_var 0))) (fun _ _ _ _ _ => (pdg_nm (i := 1) sc_is_list.nd rfl (by first | exact Or.inl rfl | exact Or.inr rfl))) (fun _ _ _ _ _ => pts0) (fun _ _ _ _ _ => (pd_call (ok_is_entry T) (hr.mono (by decide)) (by exact rfl) T.g_is_entry T.F_is_entry.kp T.b_is_entry (pda_cons (pd_var 1) pda_nil)))))) pdb_nil))))) (pds_one (pds_ret pd_bl)) pds_nil) (pds_cons (pds_set (i := 2) sc_is_list.nd rfl (by first | exact Or.inl rfl | exact Or.inr rfl) (PDN.e (pn_lc (own := [("pair", 1)]) rfl sc_is_list.nd (blkOk_by (own := [("pair", 1)]) (N := n_is_list) (sc := (defScope s_is_list)) (by decide +kernel)) (pi_anyK (K := K) (PDE.b (pd_var 0))) (fun _ _ _ _ _ => (pdg_nm (i := 1) sc_is_list.nd rfl (by first | exact Or.inl rfl | exact Or.inr rfl))) (fun _ _ _ _ _ => pts0) (fun _ _ _ _ _ => (pd_ixA (K := K) hr (PDE.b (pd_var 1)) (PDE.b pd_int)))))) (pds_cons (pd_if (pt_cmpD (po_neK (K := K) hr) (PDE.b (pd_var 2)) (PDE.b (PDN.e (pn_sortSetK (K := K) (w := w) rfl (by exact rfl) T.z_sorted (by exact rfl) T.z_set (PDE.b (pd_var 2))))) (nomark _)) (pds_one (pds_ret pd_bl)) pds_nil) (pds_one (pds_ret (pd_b (cr_all rfl) cs_all (by exact rfl) T.z_all (by decide +kernel) (pdb_cons (PDE.b (PDN.e (pn_lc2 (own := [("word", 3), ("letter", 4)]) (vs1 := [4]) rfl sc_is_list.nd (blkOk_by (own := [("word", 3), ("letter", 4)]) (N := n_is_list) (sc := (defScope s_is_list)) (by decide +kernel)) (pi_anyK (K := K) (PDE.b (pd_var 2))) (fun _ _ _ _ _ => (pdg_nm (i := 3) sc_is_list.nd rfl (by first | exact Or.inl rfl | exact Or.inr rfl))) (fun _ _ _ _ _ => pts0) (fun _ _ _ _ _ => (pf_anyK (K := K) (pd_var 3))) (fun _ _ _ _ _ => (pdg_nm (i := 4) sc_is_list.nd rfl (by first | exact Or.inl rfl | exact Or.inr rfl))) (fun _ _ _ _ _ => pts0) (fun _ _ _ _ _ => (pd_cmp (po_inD (K := K) hr) (PDE.b (pd_var 4)) (PDE.b (pd_var 2)) (by rfl)))))) pdb_nil))))))))⟩
theorem ok_check_list (T : Top K mg fa fd) : FnOk P w K mg base CX0 5 (fa 17) (fd 17) ["words"] (Good p_check_list) :=
  fn_good (k := 4) T.F_check_list sc_check_list fun cdv A outer s H E hr => ⟨_, (pds_one (pd_if (pt_notD (pt_truK (K := K) (PDE.b (pd_call (ok_is_list T) (hr.mono (by decide)) (by exact rfl) T.g_is_list T.F_is_list.kp T.b_is_list (pda_cons (pd_var 0) pda_nil))))) (pds_one pd_never) pds_nil))⟩
theorem ok_may_grow (T : Top K mg fa fd) : FnOk P w K mg base CX0 1 (fa 24) (fd 24) ["words", "text", "index"] (Good p_may_grow) :=
  fn_good (k := 0) T.F_may_grow sc_may_grow fun cdv A outer s H E hr => ⟨_, (pds_cons (pds_set (i := 3) sc_may_grow.nd rfl (by first | exact Or.inl rfl | exact Or.inr rfl) (pd_sliceK (K := K) (PDE.b (pd_var 1)) (pp_some (PDE.b (pd_var 2))) (pp_some (PDE.b (pd_op (po_addK (K := K)) (PDE.b (pd_var 2)) (PDE.b (pd_gInt T.c_LONGEST_WORD))))))) (pds_one (pds_ret (pd_b (cr_any rfl) cs_any (by exact rfl) T.z_any (by decide +kernel) (pdb_cons (PDE.b (PDN.e (pn_lc (own := [("word", 4), ("cost", 5)]) rfl sc_may_grow.nd (blkOk_by (own := [("word", 4), ("cost", 5)]) (N := n_may_grow) (sc := (defScope s_may_grow)) (by decide +kernel)) (pi_anyK (K := K) (PDE.b (pd_var 0))) (fun _ _ _ _ _ => (pdg_tupK (K := K) rfl (pdgs_cons (pdg_nm (i := 4) sc_may_grow.nd rfl (by first | exact Or.inl rfl | exact Or.inr rfl)) (pdgs_cons (pdg_nm (i := 5) sc_may_grow.nd rfl (by first | exact Or.inl rfl | exact Or.inr rfl)) pdgs_nil)))) (fun _ _ _ _ _ => pts0) (fun _ _ _ _ _ => (pd_and (pd_cmp po_gt (PDE.b (pd_b (call_lenA (K := K)) cs_lenA (by exact rfl) T.z_len (by decide +kernel) (pdb_cons (PDE.b (pd_var 4)) pdb_nil))) (PDE.b (pd_b (call_lenA (K := K)) cs_lenA (by exact rfl) T.z_len (by decide +kernel) (pdb_cons (PDE.b (pd_var 3)) pdb_nil))) (nomark _)) (pd_one (pd_mK (K := K) PySem.F.slot_str_startswith PySem.F.type_str_startswith mt_starts ms_starts (pd_var 4) (pdb_cons (PDE.b (pd_var 3)) pdb_nil)))))))) pdb_nil)))))⟩
theorem ok_find_starting (T : Top K mg fa fd) : FnOk P w K mg base CX0 1 (fa 20) (fd 20) ["words", "text", "index"] (Good p_find_starting) :=
  fn_good (k := 0) T.F_find_starting sc_find_starting fun cdv A outer s H E hr => ⟨_, (pds_one (pds_ret (PDN.e (pn_lc (own := [("word", 3), ("cost", 4)]) rfl sc_find_starting.nd (blkOk_by (own := [("word", 3), ("cost", 4)]) (N := n_find_starting) (sc := (defScope s_find_starting)) (by decide +kernel)) (pi_anyK (K := K) (PDE.b (pd_var 0))) (fun _ _ _ _ _ => (pdg_tupK (K := K) rfl (pdgs_cons (pdg_nm (i := 3) sc_find_starting.nd rfl (by first | exact Or.inl rfl | exact Or.inr rfl)) (pdgs_cons (pdg_nm (i := 4) sc_find_starting.nd rfl (by first | exact Or.inl rfl | exact Or.inr rfl)) pdgs_nil)))) (fun _ _ _ _ _ => (pts1 (pt_truK (K := K) (PDE.b (pd_mK (K := K) PySem.F.slot_str_startswith PySem.F.type_str_startswith mt_starts ms_starts (pd_var 1) (pdb_cons (PDE.b (pd_var 3)) (pdb_cons (PDE.b (pd_var 2)) pdb_nil))))))) (fun _ _ _ _ _ => (pd_var 3))))))⟩
theorem ok_read_letters (T : Top K mg fa fd) : FnOk P w K mg base CX0 2 (fa 25) (fd 25) ["words", "held", "letters"] (Good p_read_letters) :=
  fn_good (k := 1) T.F_read_letters sc_read_letters fun cdv A outer s H E hr => ⟨_, (pds_cons (pds_set (i := 3) sc_read_letters.nd rfl (by first | exact Or.inl rfl | exact Or.inr rfl) (pd_op (po_addK (K := K)) (PDE.b (pd_var 1)) (PDE.b (pd_var 2)))) (pds_cons (pds_setN (i := 4) sc_read_letters.nd rfl (by first | exact Or.inl rfl | exact Or.inr rfl) (pn_lst pda_nil)) (pds_cons (pds_set (i := 5) sc_read_letters.nd rfl (by first | exact Or.inl rfl | exact Or.inr rfl) pd_int) (pds_cons (pds_while 1000 PassesOwn.never (PDW.pt (pw_andD (pt_cmpD po_lt (PDE.b (pd_var 5)) (PDE.b (pd_b (call_lenA (K := K)) cs_lenA (by exact rfl) T.z_len (by decide +kernel) (pdb_cons (PDE.b (pd_var 3)) pdb_nil))) (nomark _)) (pw_and1D (pt_notD (pt_truK (K := K) (PDE.b (pd_call (ok_may_grow T) (hr.mono (by decide)) (by exact rfl) T.g_may_grow T.F_may_grow.kp T.b_may_grow (pda_cons (pd_var 0) (pda_cons (pd_var 3) (pda_cons (pd_var 5) pda_nil)))))))))) (pds_cons (pds_set (i := 6) sc_read_letters.nd rfl (by first | exact Or.inl rfl | exact Or.inr rfl) (pd_ixA (K := K) hr (PDE.b (pd_call (ok_find_starting T) (hr.mono (by decide)) (by exact rfl) T.g_find_starting T.F_find_starting.kp T.b_find_starting (pda_cons (pd_var 0) (pda_cons (pd_var 3) (pda_cons (pd_var 5) pda_nil))))) (PDE.b (pd_neg (PDE.b pd_int))))) (pds_cons (pds_app 4 (pd_var 6)) (pds_one (pds_aug (i := 5) sc_read_letters.nd rfl (by first | exact Or.inl rfl | exact Or.inr rfl) (PDE.b (pd_b (call_lenA (K := K)) cs_lenA (by exact rfl) T.z_len (by decide +kernel) (pdb_cons (PDE.b (pd_var 6)) pdb_nil))) ip_add r2_ipAdd))))) (pds_one (pds_frz 4 (pds_ret (pd_tup (pda_cons (pd_var 4) (pda_cons (pd_sliceK (K := K) (PDE.b (pd_var 3)) (pp_some (PDE.b (pd_var 5))) pp_none) pda_nil))))))))))⟩
theorem ok_find_letters (T : Top K mg fa fd) : FnOk P w K mg base CX0 1 (fa 14) (fd 14) ["words"] (Good p_find_letters) :=
  fn_good (k := 0) T.F_find_letters sc_find_letters fun cdv A outer s H E hr => ⟨_, (pds_one (pds_ret (pd_mK (K := K) PySem.F.slot_str_join PySem.F.type_str_join mt_join ms_join pd_str (pdb_cons (PDE.b (PDN.e (pn_lc (own := [("word", 1), ("cost", 2)]) rfl sc_find_letters.nd (blkOk_by (own := [("word", 1), ("cost", 2)]) (N := n_find_letters) (sc := (defScope s_find_letters)) (by decide +kernel)) (pi_anyK (K := K) (PDE.b (pd_var 0))) (fun _ _ _ _ _ => (pdg_tupK (K := K) rfl (pdgs_cons (pdg_nm (i := 1) sc_find_letters.nd rfl (by first | exact Or.inl rfl | exact Or.inr rfl)) (pdgs_cons (pdg_nm (i := 2) sc_find_letters.nd rfl (by first | exact Or.inl rfl | exact Or.inr rfl)) pdgs_nil)))) (fun _ _ _ _ _ => (pts1 (pt_cmpD (po_eqK (K := K) hr) (PDE.b (pd_b (call_lenA (K := K)) cs_lenA (by exact rfl) T.z_len (by decide +kernel) (pdb_cons (PDE.b (pd_var 1)) pdb_nil))) (PDE.b pd_int) (nomark _)))) (fun _ _ _ _ _ => (pd_var 1))))) pdb_nil))))⟩
theorem ok_has_letters (T : Top K mg fa fd) : FnOk P w K mg base CX0 2 (fa 15) (fd 15) ["words", "value"] (Good p_has_letters) :=
  fn_good (k := 1) T.F_has_letters sc_has_letters fun cdv A outer s H E hr => ⟨_, (pds_cons (pd_if (pt_notD (pt_truK (K := K) (PDE.b (pd_isiK (K := K) (PDE.b (pd_var 1)) (by exact rfl) T.z_isinstance (by exact rfl) T.z_str (by decide +kernel) (by decide +kernel))))) (pds_one (pds_ret pd_bl)) pds_nil) (pds_cons (pds_set (i := 2) sc_has_letters.nd rfl (by first | exact Or.inl rfl | exact Or.inr rfl) (pd_call (ok_find_letters T) (hr.mono (by decide)) (by exact rfl) T.g_find_letters T.F_find_letters.kp T.b_find_letters (pda_cons (pd_var 0) pda_nil))) (pds_one (pds_ret (pd_b (cr_all rfl) cs_all (by exact rfl) T.z_all (by decide +kernel) (pdb_cons (PDE.b (PDN.e (pn_lc (own := [("letter", 3)]) rfl sc_has_letters.nd (blkOk_by (own := [("letter", 3)]) (N := n_has_letters) (sc := (defScope s_has_letters)) (by decide +kernel)) (pi_anyK (K := K) (PDE.b (pd_var 1))) (fun _ _ _ _ _ => (pdg_nm (i := 3) sc_has_letters.nd rfl (by first | exact Or.inl rfl | exact Or.inr rfl))) (fun _ _ _ _ _ => pts0) (fun _ _ _ _ _ => (pd_cmp (po_inD (K := K) hr) (PDE.b (pd_var 3)) (PDE.b (pd_var 2)) (by rfl)))))) pdb_nil))))))⟩
theorem ok_fits (T : Top K mg fa fd) : FnOk P w K mg base CX0 3 (fa 16) (fd 16) ["words", "value"] (Good p_fits) :=
  fn_good (k := 2) T.F_fits sc_fits fun cdv A outer s H E hr => ⟨_, (pds_one (pds_ret (pd_and (pd_call (ok_has_letters T) (hr.mono (by decide)) (by exact rfl) T.g_has_letters T.F_has_letters.kp T.b_has_letters (pda_cons (pd_var 0) (pda_cons (pd_var 1) pda_nil))) (pd_one (pd_cmp po_le (PDE.b (pd_b (call_lenA (K := K)) cs_lenA (by exact rfl) T.z_len (by decide +kernel) (pdb_cons (PDE.b (pd_var 1)) pdb_nil))) (PDE.b (pd_gInt T.c_LONGEST_TEXT)) (nomark _))))))⟩
theorem ok_find_match (T : Top K mg fa fd) : FnOk P w K mg base CX0 2 (fa 22) (fd 22) ["words", "text", "index"] (Good p_find_match) :=
  fn_good (k := 1) T.F_find_match sc_find_match fun cdv A outer s H E hr => ⟨_, (pds_cons (pds_setN (i := 3) sc_find_match.nd rfl (by first | exact Or.inl rfl | exact Or.inr rfl) (pn_lst pda_nil)) (pds_cons (pds_while 1000 PassesOwn.never (pt_cmpD po_lt (PDE.b (pd_var 2)) (PDE.b (pd_b (call_lenA (K := K)) cs_lenA (by exact rfl) T.z_len (by decide +kernel) (pdb_cons (PDE.b (pd_var 1)) pdb_nil))) (nomark _)) (pds_cons (pds_set (i := 4) sc_find_match.nd rfl (by first | exact Or.inl rfl | exact Or.inr rfl) (pd_ixA (K := K) hr (PDE.b (pd_call (ok_find_starting T) (hr.mono (by decide)) (by exact rfl) T.g_find_starting T.F_find_starting.kp T.b_find_starting (pda_cons (pd_var 0) (pda_cons (pd_var 1) (pda_cons (pd_var 2) pda_nil))))) (PDE.b (pd_neg (PDE.b pd_int))))) (pds_cons (pds_app 3 (pd_var 4)) (pds_one (pds_aug (i := 2) sc_find_match.nd rfl (by first | exact Or.inl rfl | exact Or.inr rfl) (PDE.b (pd_b (call_lenA (K := K)) cs_lenA (by exact rfl) T.z_len (by decide +kernel) (pdb_cons (PDE.b (pd_var 4)) pdb_nil))) ip_add r2_ipAdd))))) (pds_one (pds_frz 3 (pds_ret (pd_ty (call_tupB (K := K) rfl) cs_tupB (by exact rfl) T.z_tuple (by decide +kernel) (pdb_cons (PDE.b (pd_var 3)) pdb_nil)))))))⟩
theorem ok__law_next (T : Top K mg fa fd) : FnOk P w K mg base CX0 1 (fa 30) (fd 30) ["stream", "many"] (Good p__law_next) :=
  fn_good (k := 0) T.F__law_next sc__law_next fun cdv A outer s H E hr => ⟨_, (pds_cons (pd_if (pt_cmpD (po_eqK (K := K) hr) (PDE.b (pd_strIK (K := K) (j := 1) 0)) (PDE.b pd_int) (nomark _)) (pds_cons (pds_set (i := 2) sc__law_next.nd rfl (by first | exact Or.inl rfl | exact Or.inr rfl) (pd_strIK (K := K) (j := 2) 0)) (pds_cons (pds_set (i := 3) sc__law_next.nd rfl (by first | exact Or.inl rfl | exact Or.inr rfl) (pd_op (po_addK (K := K)) (PDE.b pd_int) (PDE.b (pd_var 2)))) (pds_cons (pd_if (pt_cmpD po_lt (PDE.b (pd_var 2)) (PDE.b (pd_b (call_lenA (K := K)) cs_lenA (by exact rfl) T.z_len (by decide +kernel) (pdb_cons (PDE.b (pd_strIK (K := K) (j := 0) 0)) pdb_nil))) (nomark _)) (pds_one (pds_set (i := 3) sc__law_next.nd rfl (by first | exact Or.inl rfl | exact Or.inr rfl) (pd_b call_abs cs_abs (by exact rfl) T.z_abs (by decide +kernel) (pdb_cons (PDE.b (pd_ixA (K := K) hr (PDE.b (pd_strIK (K := K) (j := 0) 0)) (PDE.b (pd_var 2)))) pdb_nil)))) pds_nil) (pds_cons (pd_if (pt_cmpD po_lt (PDE.b (pd_var 3)) (PDE.b (pd_op po_pow (PDE.b pd_int) (PDE.b pd_int))) (nomark _)) (pds_cons (pds_set (i := 3) sc__law_next.nd rfl (by first | exact Or.inl rfl | exact Or.inr rfl) (pd_op po_mod (PDE.b (pd_ty call_int1 cs_int (by exact rfl) T.z_int (by decide +kernel) (pdb_cons (PDE.b (pd_op (po_addK (K := K)) (PDE.b (pd_op (po_addK (K := K)) (PDE.b (pd_op po_mul (PDE.b (pd_var 3)) (PDE.b pd_int))) (PDE.b (pd_op po_mul (PDE.b (pd_var 2)) (PDE.b pd_int))))) (PDE.b pd_int))) pdb_nil))) (PDE.b pd_int))) (pds_one (pds_set (i := 3) sc__law_next.nd rfl (by first | exact Or.inl rfl | exact Or.inr rfl) (pd_op (po_addK (K := K)) (PDE.b (pd_op po_mul (PDE.b (pd_op po_mod (PDE.b (pd_ty call_int1 cs_int (by exact rfl) T.z_int (by decide +kernel) (pdb_cons (PDE.b (pd_op (po_addK (K := K)) (PDE.b (pd_op po_mul (PDE.b (pd_var 3)) (PDE.b pd_int))) (PDE.b pd_int))) pdb_nil))) (PDE.b pd_int))) (PDE.b pd_int))) (PDE.b (pd_var 3)))))) pds_nil) (pds_cons (pds_strP (j := 1) 0 (pd_var 3)) (pds_one (pds_strP (j := 2) 0 (pd_op (po_addK (K := K)) (PDE.b (pd_var 2)) (PDE.b pd_int))))))))) pds_nil) (pds_cons (pds_set (i := 4) sc__law_next.nd rfl (by first | exact Or.inl rfl | exact Or.inr rfl) (pd_op po_mod (PDE.b (pd_ty call_int1 cs_int (by exact rfl) T.z_int (by decide +kernel) (pdb_cons (PDE.b (pd_strIK (K := K) (j := 1) 0)) pdb_nil))) (PDE.b (pd_var 1)))) (pds_cons (pds_strP (j := 1) 0 (pd_op po_fdiv (PDE.b (pd_strIK (K := K) (j := 1) 0)) (PDE.b (pd_var 1)))) (pds_one (pds_retV 4)))))⟩
theorem ok__law_letters (T : Top K mg fa fd) : FnOk P w K mg base CX0 2 (fa 33) (fd 33) ["stream"] (Good p__law_letters) :=
  fn_good (k := 1) T.F__law_letters sc__law_letters fun cdv A outer s H E hr => ⟨_, (pds_cons (pds_set (i := 1) sc__law_letters.nd rfl (by first | exact Or.inl rfl | exact Or.inr rfl) pd_str) (pds_cons (pds_setN (i := 2) sc__law_letters.nd rfl (by first | exact Or.inl rfl | exact Or.inr rfl) (pn_lst pda_nil)) (pds_cons (pds_for PassesOwn.never rfl (pf_rng1 (by exact rfl) T.z_range (pdb_cons (PDE.b (pd_op (po_addK (K := K)) (PDE.b pd_int) (PDE.b (pd_call (ok__law_next T) (hr.mono (by decide)) (by exact rfl) T.g__law_next T.F__law_next.kp T.b__law_next (pda_cons (pd_var 0) (pda_cons pd_int pda_nil)))))) pdb_nil)) (pdg_nm (i := 3) sc__law_letters.nd rfl (by first | exact Or.inl rfl | exact Or.inr rfl)) (pds_cons (pds_set (i := 4) sc__law_letters.nd rfl (by first | exact Or.inl rfl | exact Or.inr rfl) (pd_ixA (K := K) hr (PDE.b (pd_var 1)) (PDE.b (pd_call (ok__law_next T) (hr.mono (by decide)) (by exact rfl) T.g__law_next T.F__law_next.kp T.b__law_next (pda_cons (pd_var 0) (pda_cons pd_int pda_nil)))))) (pds_one (pd_if (pt_cmpD (po_notinD (K := K) hr) (PDE.b (pd_var 4)) (pb_var 2) (by rfl)) (pds_one (pds_app 2 (pd_var 4))) pds_nil)))) (pds_one (pds_retV 2)))))⟩
theorem ok__law_words (T : Top K mg fa fd) : FnOk P w K mg base CX0 2 (fa 35) (fd 35) ["stream", "letters"] (Good p__law_words) :=
  fn_good (k := 1) T.F__law_words sc__law_words fun cdv A outer s H E hr => ⟨_, (pds_cons (pds_setN (i := 2) sc__law_words.nd rfl (by first | exact Or.inl rfl | exact Or.inr rfl) (pn_ty (call_listAK (K := K) rfl) cn_listA (by exact rfl) T.z_list (by decide +kernel) (pdb_cons (PDE.b (pd_var 1)) pdb_nil))) (pds_cons (pds_for PassesOwn.never rfl (pf_rng1 (by exact rfl) T.z_range (pdb_cons (PDE.b (pd_call (ok__law_next T) (hr.mono (by decide)) (by exact rfl) T.g__law_next T.F__law_next.kp T.b__law_next (pda_cons (pd_var 0) (pda_cons pd_int pda_nil)))) pdb_nil)) (pdg_nm (i := 3) sc__law_words.nd rfl (by first | exact Or.inl rfl | exact Or.inr rfl)) (pds_cons (pds_set (i := 4) sc__law_words.nd rfl (by first | exact Or.inl rfl | exact Or.inr rfl) (pd_mK (K := K) PySem.F.slot_str_join PySem.F.type_str_join mt_join ms_join pd_str (pdb_cons (PDE.b (PDN.e (pn_lc (own := [("k", 5)]) rfl sc__law_words.nd (blkOk_by (own := [("k", 5)]) (N := n__law_words) (sc := (defScope s__law_words)) (by decide +kernel)) (pi_rng1 (by exact rfl) T.z_range (pdb_cons (PDE.b (pd_op (po_addK (K := K)) (PDE.b pd_int) (PDE.b (pd_call (ok__law_next T) (hr.mono (by decide)) (by exact rfl) T.g__law_next T.F__law_next.kp T.b__law_next (pda_cons (pd_var 0) (pda_cons pd_int pda_nil)))))) pdb_nil)) (fun _ _ _ _ _ => (pdg_nm (i := 5) sc__law_words.nd rfl (by first | exact Or.inl rfl | exact Or.inr rfl))) (fun _ _ _ _ _ => pts0) (fun _ _ _ _ _ => (pd_ixA (K := K) hr (PDE.b (pd_var 1)) (PDE.b (pd_call (ok__law_next T) (hr.mono (by decide)) (by exact rfl) T.g__law_next T.F__law_next.kp T.b__law_next (pda_cons (pd_var 0) (pda_cons (pd_b (call_lenA (K := K)) cs_lenA (by exact rfl) T.z_len (by decide +kernel) (pdb_cons (PDE.b (pd_var 1)) pdb_nil)) pda_nil))))))))) pdb_nil))) (pds_one (pd_if (PDW.pt (pw_andD (pt_cmpD (po_notinD (K := K) hr) (PDE.b (pd_var 4)) (pb_var 2) (by rfl)) (pw_and1D (pt_cmpD po_lt (PDE.b (pd_b (call_lenA (K := K)) cs_lenA (by exact rfl) T.z_len (by decide +kernel) (pdb_cons (pb_var 2) pdb_nil))) (PDE.b pd_int) (nomark _))))) (pds_one (pds_app 2 (pd_var 4))) pds_nil)))) (pds_one (pds_frz 2 (pds_ret (pd_ty (call_tupB (K := K) rfl) cs_tupB (by exact rfl) T.z_tuple (by decide +kernel) (pdb_cons (PDE.b (PDN.e (pn_lc (own := [("word", 4)]) rfl sc__law_words.nd (blkOk_by (own := [("word", 4)]) (N := n__law_words) (sc := (defScope s__law_words)) (by decide +kernel)) (pi_anyK (K := K) (PDE.b (PDN.e (pn_b (cr_sortB (K := K) hr rfl) cn_sortB (by exact rfl) T.z_sorted (by decide +kernel) (pdb_cons (PDE.b (pd_var 2)) pdb_nil))))) (fun _ _ _ _ _ => (pdg_nm (i := 4) sc__law_words.nd rfl (by first | exact Or.inl rfl | exact Or.inr rfl))) (fun _ _ _ _ _ => pts0) (fun _ _ _ _ _ => (pd_tup (pda_cons (pd_var 4) (pda_cons (pd_op (po_addK (K := K)) (PDE.b pd_int) (PDE.b (pd_call (ok__law_next T) (hr.mono (by decide)) (by exact rfl) T.g__law_next T.F__law_next.kp T.b__law_next (pda_cons (pd_var 0) (pda_cons pd_int pda_nil))))) pda_nil))))))) pdb_nil)))))))⟩
theorem ok__law_is_integer (T : Top K mg fa fd) : FnOk P w K mg base CX0 1 (fa 31) (fd 31) ["actual"] (Good p__law_is_integer) :=
  fn_good (k := 0) T.F__law_is_integer sc__law_is_integer fun cdv A outer s H E hr => ⟨_, (pds_one (pds_ret (pd_and (pd_isiK (K := K) (PDE.b (pd_var 0)) (by exact rfl) T.z_isinstance (by exact rfl) T.z_int (by decide +kernel) (by decide +kernel)) (pd_one (pd_notK (K := K) (PDE.b (pd_isiK (K := K) (PDE.b (pd_var 0)) (by exact rfl) T.z_isinstance (by exact rfl) T.z_bool (by decide +kernel) (by decide +kernel))))))))⟩
theorem ok__law_equal (T : Top K mg fa fd) : ∀ k : Nat, FnOk P w K mg base CX0 (k + 2) (fa 32) (fd 32) ["actual", "due"] (Good (p__law_equal k))
  | 0 => fn_zero
  | k + 1 => by
    have G := ok__law_equal T k
    have e : k + 1 + 2 = (k + 2) + 1 := by omega
    rw [e]
    exact fn_good (k := k + 2) T.F__law_equal sc__law_equal fun cdv A outer s H E hr => ⟨_, (pds_cons (pd_if (pt_cmpD po_is (PDE.b (pd_var 1)) (PDE.b pd_non) (nomark _)) (pds_one (pds_ret (pd_cmp po_is (PDE.b (pd_var 0)) (PDE.b pd_non) (nomark _)))) pds_nil) (pds_cons (pd_if (pt_truK (K := K) (PDE.b (pd_isiK (K := K) (PDE.b (pd_var 1)) (by exact rfl) T.z_isinstance (by exact rfl) T.z_bool (by decide +kernel) (by decide +kernel)))) (pds_one (pds_ret (pd_and (pd_isiK (K := K) (PDE.b (pd_var 0)) (by exact rfl) T.z_isinstance (by exact rfl) T.z_bool (by decide +kernel) (by decide +kernel)) (pd_one (pd_cmp (po_eqK (K := K) hr) (PDE.b (pd_var 0)) (PDE.b (pd_var 1)) (nomark _)))))) pds_nil) (pds_cons (pd_if (pt_truK (K := K) (PDE.b (pd_isiK (K := K) (PDE.b (pd_var 1)) (by exact rfl) T.z_isinstance (by exact rfl) T.z_int (by decide +kernel) (by decide +kernel)))) (pds_one (pds_ret (pd_and (pd_call (ok__law_is_integer T) (hr.mono (by omega)) (by exact rfl) T.g__law_is_integer T.F__law_is_integer.kp T.b__law_is_integer (pda_cons (pd_var 0) pda_nil)) (pd_one (pd_cmp (po_eqK (K := K) hr) (PDE.b (pd_var 0)) (PDE.b (pd_var 1)) (nomark _)))))) pds_nil) (pds_cons (pd_if (pt_truK (K := K) (PDE.b (pd_isiK (K := K) (PDE.b (pd_var 1)) (by exact rfl) T.z_isinstance (by exact rfl) T.z_str (by decide +kernel) (by decide +kernel)))) (pds_one (pds_ret (pd_and (pd_isiK (K := K) (PDE.b (pd_var 0)) (by exact rfl) T.z_isinstance (by exact rfl) T.z_str (by decide +kernel) (by decide +kernel)) (pd_one (pd_cmp (po_eqK (K := K) hr) (PDE.b (pd_var 0)) (PDE.b (pd_var 1)) (nomark _)))))) pds_nil) (pds_cons (pd_if (PDW.pt (pw_andD (pt_truK (K := K) (PDE.b (pd_isiK (K := K) (PDE.b (pd_var 1)) (by exact rfl) T.z_isinstance (by exact rfl) T.z_tuple (by decide +kernel) (by decide +kernel)))) (pw_and1D (pt_notD (pt_truK (K := K) (PDE.b (pd_isiK (K := K) (PDE.b (pd_var 0)) (by exact rfl) T.z_isinstance (by exact rfl) T.z_tuple (by decide +kernel) (by decide +kernel)))))))) (pds_one (pds_ret pd_bl)) pds_nil) (pds_cons (pd_if (PDW.pt (pw_andD (pt_truK (K := K) (PDE.b (pd_isiK (K := K) (PDE.b (pd_var 1)) (by exact rfl) T.z_isinstance (by exact rfl) T.z_list (by decide +kernel) (by decide +kernel)))) (pw_and1D (pt_notD (pt_truK (K := K) (PDE.b (pd_isiK (K := K) (PDE.b (pd_var 0)) (by exact rfl) T.z_isinstance (by exact rfl) T.z_list (by decide +kernel) (by decide +kernel)))))))) (pds_one (pds_ret pd_bl)) pds_nil) (pds_cons (pd_if (pt_cmpD (po_neK (K := K) hr) (PDE.b (pd_b (call_lenA (K := K)) cs_lenA (by exact rfl) T.z_len (by decide +kernel) (pdb_cons (PDE.b (pd_var 0)) pdb_nil))) (PDE.b (pd_b (call_lenA (K := K)) cs_lenA (by exact rfl) T.z_len (by decide +kernel) (pdb_cons (PDE.b (pd_var 1)) pdb_nil))) (nomark _)) (pds_one (pds_ret pd_bl)) pds_nil) (pds_one (pds_ret (pd_b (cr_all rfl) cs_all (by exact rfl) T.z_all (by decide +kernel) (pdb_cons (PDE.b (PDN.e (pn_lc (own := [("at", 2)]) rfl sc__law_equal.nd (blkOk_by (own := [("at", 2)]) (N := n__law_equal) (sc := (defScope s__law_equal)) (by decide +kernel)) (pi_rng1 (by exact rfl) T.z_range (pdb_cons (PDE.b (pd_b (call_lenA (K := K)) cs_lenA (by exact rfl) T.z_len (by decide +kernel) (pdb_cons (PDE.b (pd_var 1)) pdb_nil))) pdb_nil)) (fun _ _ _ _ _ => (pdg_nm (i := 2) sc__law_equal.nd rfl (by first | exact Or.inl rfl | exact Or.inr rfl))) (fun _ _ _ _ _ => pts0) (fun _ _ _ _ _ => (pd_call G hr (by exact rfl) T.g__law_equal T.F__law_equal.kp T.b__law_equal (pda_cons (pd_ixA (K := K) hr (PDE.b (pd_var 0)) (PDE.b (pd_var 2))) (pda_cons (pd_ixA (K := K) hr (PDE.b (pd_var 1)) (PDE.b (pd_var 2))) pda_nil))))))) pdb_nil)))))))))))⟩
theorem ok_check_text (T : Top K mg fa fd) : FnOk P w K mg base CX0 6 (fa 18) (fd 18) ["words", "text"] (Good p_check_text) :=
  fn_good (k := 5) T.F_check_text sc_check_text fun cdv A outer s H E hr => ⟨_, (pds_cons (pds_expr (pd_call (ok_check_list T) (hr.mono (by decide)) (by exact rfl) T.g_check_list T.F_check_list.kp T.b_check_list (pda_cons (pd_var 0) pda_nil))) (pds_one (pd_if (pt_notD (pt_truK (K := K) (PDE.b (pd_call (ok_fits T) (hr.mono (by decide)) (by exact rfl) T.g_fits T.F_fits.kp T.b_fits (pda_cons (pd_var 0) (pda_cons (pd_var 1) pda_nil)))))) (pds_one pd_never) pds_nil)))⟩
theorem ok_after (T : Top K mg fa fd) : FnOk P w K mg base CX0 7 (fa 26) (fd 26) ["words", "text"] (Good p_after) :=
  fn_good (k := 6) T.F_after sc_after fun cdv A outer s H E hr => ⟨_, (pds_cons (pds_expr (pd_call (ok_check_text T) (hr.mono (by decide)) (by exact rfl) T.g_check_text T.F_check_text.kp T.b_check_text (pda_cons (pd_var 0) (pda_cons (pd_var 1) pda_nil)))) (pds_cons (pds_asg (pd_call (ok_read_letters T) (hr.mono (by decide)) (by exact rfl) T.g_read_letters T.F_read_letters.kp T.b_read_letters (pda_cons (pd_var 0) (pda_cons pd_str (pda_cons (pd_var 1) pda_nil)))) (pdg_tupK (K := K) rfl (pdgs_cons (pdg_nm (i := 2) sc_after.nd rfl (by first | exact Or.inl rfl | exact Or.inr rfl)) (pdgs_cons (pdg_nm (i := 3) sc_after.nd rfl (by first | exact Or.inl rfl | exact Or.inr rfl)) pdgs_nil)))) (pds_one (pds_ret (pd_tup (pda_cons (pd_ty (call_tupB (K := K) rfl) cs_tupB (by exact rfl) T.z_tuple (by decide +kernel) (pdb_cons (PDE.b (pd_var 2)) pdb_nil)) (pda_cons (pd_var 3) pda_nil)))))))⟩
theorem ok__law_string (T : Top K mg fa fd) : FnOk P w K mg base CX0 2 (fa 34) (fd 34) ["stream", "letters", "most"] (Good p__law_string) :=
  fn_good (k := 1) T.F__law_string sc__law_string fun cdv A outer s H E hr => ⟨_, (pds_one (pds_ret (pd_mK (K := K) PySem.F.slot_str_join PySem.F.type_str_join mt_join ms_join pd_str (pdb_cons (PDE.b (PDN.e (pn_lc (own := [("k", 3)]) rfl sc__law_string.nd (blkOk_by (own := [("k", 3)]) (N := n__law_string) (sc := (defScope s__law_string)) (by decide +kernel)) (pi_rng1 (by exact rfl) T.z_range (pdb_cons (PDE.b (pd_call (ok__law_next T) (hr.mono (by decide)) (by exact rfl) T.g__law_next T.F__law_next.kp T.b__law_next (pda_cons (pd_var 0) (pda_cons (pd_op (po_addK (K := K)) (PDE.b (pd_var 2)) (PDE.b pd_int)) pda_nil)))) pdb_nil)) (fun _ _ _ _ _ => (pdg_nm (i := 3) sc__law_string.nd rfl (by first | exact Or.inl rfl | exact Or.inr rfl))) (fun _ _ _ _ _ => pts0) (fun _ _ _ _ _ => (pd_ixA (K := K) hr (PDE.b (pd_var 1)) (PDE.b (pd_call (ok__law_next T) (hr.mono (by decide)) (by exact rfl) T.g__law_next T.F__law_next.kp T.b__law_next (pda_cons (pd_var 0) (pda_cons (pd_b (call_lenA (K := K)) cs_lenA (by exact rfl) T.z_len (by decide +kernel) (pdb_cons (PDE.b (pd_var 1)) pdb_nil)) pda_nil))))))))) pdb_nil))))⟩
theorem ok__law_extending (T : Top K mg fa fd) : FnOk P w K mg base CX0 1 (fa 37) (fd 37) ["words", "held"] (Good p__law_extending) :=
  fn_good (k := 0) T.F__law_extending sc__law_extending fun cdv A outer s H E hr => ⟨_, (pds_one (pds_ret (PDN.e (pn_lc (own := [("word", 2), ("cost", 3)]) rfl sc__law_extending.nd (blkOk_by (own := [("word", 2), ("cost", 3)]) (N := n__law_extending) (sc := (defScope s__law_extending)) (by decide +kernel)) (pi_anyK (K := K) (PDE.b (pd_var 0))) (fun _ _ _ _ _ => (pdg_tupK (K := K) rfl (pdgs_cons (pdg_nm (i := 2) sc__law_extending.nd rfl (by first | exact Or.inl rfl | exact Or.inr rfl)) (pdgs_cons (pdg_nm (i := 3) sc__law_extending.nd rfl (by first | exact Or.inl rfl | exact Or.inr rfl)) pdgs_nil)))) (fun _ _ _ _ _ => (pts1 (PDW.pt (pw_andD (pt_cmpD po_gt (PDE.b (pd_b (call_lenA (K := K)) cs_lenA (by exact rfl) T.z_len (by decide +kernel) (pdb_cons (PDE.b (pd_var 2)) pdb_nil))) (PDE.b (pd_b (call_lenA (K := K)) cs_lenA (by exact rfl) T.z_len (by decide +kernel) (pdb_cons (PDE.b (pd_var 1)) pdb_nil))) (nomark _)) (pw_and1D (pt_cmpD (po_eqK (K := K) hr) (PDE.b (pd_sliceK (K := K) (PDE.b (pd_var 2)) pp_none (pp_some (PDE.b (pd_b (call_lenA (K := K)) cs_lenA (by exact rfl) T.z_len (by decide +kernel) (pdb_cons (PDE.b (pd_var 1)) pdb_nil)))))) (PDE.b (pd_var 1)) (nomark _))))))) (fun _ _ _ _ _ => (pd_var 2))))))⟩
theorem ok__law_longest (T : Top K mg fa fd) : FnOk P w K mg base CX0 1 (fa 36) (fd 36) ["words", "text"] (Good p__law_longest) :=
  fn_good (k := 0) T.F__law_longest sc__law_longest fun cdv A outer s H E hr => ⟨_, (pds_cons (pds_setN (i := 2) sc__law_longest.nd rfl (by first | exact Or.inl rfl | exact Or.inr rfl) (pn_lst pda_nil)) (pds_cons (pds_set (i := 3) sc__law_longest.nd rfl (by first | exact Or.inl rfl | exact Or.inr rfl) (pd_var 1)) (pds_cons (pds_for PassesOwn.never rfl (pf_rng1 (by exact rfl) T.z_range (pdb_cons (PDE.b (pd_b (call_lenA (K := K)) cs_lenA (by exact rfl) T.z_len (by decide +kernel) (pdb_cons (PDE.b (pd_var 1)) pdb_nil))) pdb_nil)) (pdg_nm (i := 4) sc__law_longest.nd rfl (by first | exact Or.inl rfl | exact Or.inr rfl)) (pds_cons (pd_if (pt_cmpD (po_eqK (K := K) hr) (PDE.b (pd_var 3)) (PDE.b pd_str) (nomark _)) (pds_one pd_break) pds_nil) (pds_cons (pds_set (i := 5) sc__law_longest.nd rfl (by first | exact Or.inl rfl | exact Or.inr rfl) (pd_ixA (K := K) hr (PDE.b (pd_var 3)) (PDE.b pd_int))) (pds_cons (pds_for PassesOwn.never rfl (pf_anyK (K := K) (pd_var 0)) (pdg_tupK (K := K) rfl (pdgs_cons (pdg_nm (i := 6) sc__law_longest.nd rfl (by first | exact Or.inl rfl | exact Or.inr rfl)) (pdgs_cons (pdg_nm (i := 7) sc__law_longest.nd rfl (by first | exact Or.inl rfl | exact Or.inr rfl)) pdgs_nil))) (pds_one (pd_if (PDW.pt (pw_andD (pt_cmpD (po_eqK (K := K) hr) (PDE.b (pd_sliceK (K := K) (PDE.b (pd_var 3)) pp_none (pp_some (PDE.b (pd_b (call_lenA (K := K)) cs_lenA (by exact rfl) T.z_len (by decide +kernel) (pdb_cons (PDE.b (pd_var 6)) pdb_nil)))))) (PDE.b (pd_var 6)) (nomark _)) (pw_and1D (pt_cmpD po_gt (PDE.b (pd_b (call_lenA (K := K)) cs_lenA (by exact rfl) T.z_len (by decide +kernel) (pdb_cons (PDE.b (pd_var 6)) pdb_nil))) (PDE.b (pd_b (call_lenA (K := K)) cs_lenA (by exact rfl) T.z_len (by decide +kernel) (pdb_cons (PDE.b (pd_var 5)) pdb_nil))) (nomark _))))) (pds_one (pds_set (i := 5) sc__law_longest.nd rfl (by first | exact Or.inl rfl | exact Or.inr rfl) (pd_var 6))) pds_nil))) (pds_cons (pds_app 2 (pd_var 5)) (pds_one (pds_set (i := 3) sc__law_longest.nd rfl (by first | exact Or.inl rfl | exact Or.inr rfl) (pd_sliceK (K := K) (PDE.b (pd_var 3)) (pp_some (PDE.b (pd_b (call_lenA (K := K)) cs_lenA (by exact rfl) T.z_len (by decide +kernel) (pdb_cons (PDE.b (pd_var 5)) pdb_nil)))) pp_none)))))))) (pds_one (pds_retV 2)))))⟩
theorem ok__law_after (T : Top K mg fa fd) : FnOk P w K mg base CX0 2 (fa 38) (fd 38) ["words", "text"] (Good p__law_after) :=
  fn_good (k := 1) T.F__law_after sc__law_after fun cdv A outer s H E hr => ⟨_, (pds_cons (pds_setN (i := 2) sc__law_after.nd rfl (by first | exact Or.inl rfl | exact Or.inr rfl) (pn_lst pda_nil)) (pds_cons (pds_set (i := 3) sc__law_after.nd rfl (by first | exact Or.inl rfl | exact Or.inr rfl) pd_str) (pds_cons (pds_for PassesOwn.never rfl (pf_anyK (K := K) (pd_var 1)) (pdg_nm (i := 4) sc__law_after.nd rfl (by first | exact Or.inl rfl | exact Or.inr rfl)) (pds_cons (pds_set (i := 3) sc__law_after.nd rfl (by first | exact Or.inl rfl | exact Or.inr rfl) (pd_op (po_addK (K := K)) (PDE.b (pd_var 3)) (PDE.b (pd_var 4)))) (pds_one (pds_for PassesOwn.never rfl (pf_rng1 (by exact rfl) T.z_range (pdb_cons (PDE.b (pd_b (call_lenA (K := K)) cs_lenA (by exact rfl) T.z_len (by decide +kernel) (pdb_cons (PDE.b (pd_var 3)) pdb_nil))) pdb_nil)) (pdg_nm (i := 5) sc__law_after.nd rfl (by first | exact Or.inl rfl | exact Or.inr rfl)) (pds_cons (pd_if (PDW.pt (pw_orD (pt_cmpD (po_eqK (K := K) hr) (PDE.b (pd_var 3)) (PDE.b pd_str) (nomark _)) (pw_or1D (pt_truK (K := K) (PDE.b (pd_call (ok__law_extending T) (hr.mono (by decide)) (by exact rfl) T.g__law_extending T.F__law_extending.kp T.b__law_extending (pda_cons (pd_var 0) (pda_cons (pd_var 3) pda_nil)))))))) (pds_one pd_break) pds_nil) (pds_cons (pds_set (i := 6) sc__law_after.nd rfl (by first | exact Or.inl rfl | exact Or.inr rfl) (pd_ixA (K := K) hr (PDE.b (pd_call (ok__law_longest T) (hr.mono (by decide)) (by exact rfl) T.g__law_longest T.F__law_longest.kp T.b__law_longest (pda_cons (pd_var 0) (pda_cons (pd_var 3) pda_nil)))) (PDE.b pd_int))) (pds_cons (pds_app 2 (pd_var 6)) (pds_one (pds_set (i := 3) sc__law_after.nd rfl (by first | exact Or.inl rfl | exact Or.inr rfl) (pd_sliceK (K := K) (PDE.b (pd_var 3)) (pp_some (PDE.b (pd_b (call_lenA (K := K)) cs_lenA (by exact rfl) T.z_len (by decide +kernel) (pdb_cons (PDE.b (pd_var 6)) pdb_nil)))) pp_none)))))))))) (pds_one (pds_frz 2 (pds_ret (pd_tup (pda_cons (pd_var 2) (pda_cons (pd_var 3) pda_nil)))))))))⟩
theorem ok_Reader_init (T : Top K mg fa fd) : FnOk P w K mg base CX0 6 (fa 1027) (fd 1027) ["self", "words"] (GoodO (fa 27) (p_Reader_init (fa 27))) :=
  fn_goodO (k := 5) T.F_Reader_init sc_Reader_init fun cdv A outer s H E hr => ⟨_, (psf_cons (so_drop (pd_call (ok_check_list T) (hr.mono (by decide)) (by exact rfl) T.g_check_list T.F_check_list.kp T.b_check_list (pda_cons (pd_var 1) pda_nil))) (psf_cons (so_put (by exact rfl) T.o_Reader.oc (by decide +kernel) (pd_var 1) rfl (by first | exact Or.inl rfl | exact Or.inr (Or.inl rfl))) (psf_cons (so_put (by exact rfl) T.o_Reader.oc (by decide +kernel) pd_str rfl (by first | exact Or.inl rfl | exact Or.inr (Or.inl rfl))) psf_end)))⟩
theorem ok_Reader_read (T : Top K mg fa fd) : FnOk P w K mg base CX0 4 (fa 3351) (fd 3351) ["self", "piece"] (GoodO (fa 27) (p_Reader_read (fa 27))) :=
  fn_goodO (k := 3) T.F_Reader_read sc_Reader_read fun cdv A outer s H E hr => ⟨_, (psf_cons (so_if (pt_notD (pt_truK (K := K) (PDE.b (pd_call (ok_fits T) (hr.mono (by decide)) (by exact rfl) T.g_fits T.F_fits.kp T.b_fits (pda_cons (pd_fld 0 (by exact rfl) T.o_Reader.oc (by decide +kernel)) (pda_cons (pd_var 1) pda_nil)))))) (so_one so_never) so_nil) (psf_cons (so_put2 (i := 2) rfl (by exact rfl) T.o_Reader.oc (by decide +kernel) (pd_call (ok_read_letters T) (hr.mono (by decide)) (by exact rfl) T.g_read_letters T.F_read_letters.kp T.b_read_letters (pda_cons (pd_fld 0 (by exact rfl) T.o_Reader.oc (by decide +kernel)) (pda_cons (pd_fld 0 (by exact rfl) T.o_Reader.oc (by decide +kernel)) (pda_cons (pd_var 1) pda_nil)))) sc_Reader_read.nd rfl (by first | exact Or.inl rfl | exact Or.inr rfl) rfl (by first | exact Or.inl rfl | exact Or.inr (Or.inl rfl)) (ps_asg (PDE.pe (pd_call (ok_read_letters T) (hr.mono (by decide)) (by exact rfl) T.g_read_letters T.F_read_letters.kp T.b_read_letters (pda_cons (pd_fld 0 (by exact rfl) T.o_Reader.oc (by decide +kernel)) (pda_cons (pd_fld 0 (by exact rfl) T.o_Reader.oc (by decide +kernel)) (pda_cons (pd_var 1) pda_nil))))) (pg_tup rfl (pgs_cons (pg_name (i := 2) sc_Reader_read.nd rfl (by first | exact Or.inl rfl | exact Or.inr rfl)) (pgs_cons (pg_fld (pe_var (i := 0) rfl (by first | exact Or.inl rfl | exact Or.inr (Or.inl rfl)))) pgs_nil))))) (psf_ret (pd_var 2))))⟩
theorem okx_Reader_read (T : Top K mg fa fd) : FnOk P w K mg base (L2.CX P w) 4 (fa 3351) (fd 3351) ["self", "piece"] (GoodX fa (px_Reader_read (fa 27))) :=
  fn_goodX (k := 3) T.F_Reader_read sc_Reader_read fun cdv A outer s H E hr => ⟨_, (pxs_cons (px_if (pt_notD (pt_truK (K := K) (PDE.b (pd_call (ok_fits T) (hr.mono (by decide)) (by exact rfl) T.g_fits T.F_fits.kp T.b_fits (pda_cons (pd_fld 0 (by exact rfl) T.o_Reader.oc (by decide +kernel)) (pda_cons (pd_var 1) pda_nil)))))) (pxs_one (px_raise 2 (by exact rfl) T.x_BadValue (ok_init_BadValue T) T.b_BadValue (hr.mono (by decide)) rfl (pda_cons pd_str pda_nil))) pxs_nil) (pxs_stop fun _ => (pss_cons ps_never (pss_one ps_never))))⟩
theorem ok_Reader_held (T : Top K mg fa fd) : FnOk P w K mg base CX0 2 (fa 3352) (fd 3352) ["self"] (Good (p_Reader_held (fa 27))) :=
  fn_good (k := 1) T.F_Reader_held sc_Reader_held fun cdv A outer s H E hr => ⟨_, (pds_one (pds_ret (pd_fld 0 (by exact rfl) T.o_Reader.oc (by decide +kernel))))⟩
theorem ok_Reader_finish (T : Top K mg fa fd) : FnOk P w K mg base CX0 3 (fa 3353) (fd 3353) ["self"] (GoodO (fa 27) (p_Reader_finish (fa 27))) :=
  fn_goodO (k := 2) T.F_Reader_finish sc_Reader_finish fun cdv A outer s H E hr => ⟨_, (psf_cons (so_set (i := 1) (by decide) sc_Reader_finish.nd rfl (by first | exact Or.inl rfl | exact Or.inr rfl) (PDN.e (pn_ty (call_listAK (K := K) rfl) cn_listA (by exact rfl) T.z_list (by decide +kernel) (pdb_cons (PDE.b (pd_call (ok_find_match T) (hr.mono (by decide)) (by exact rfl) T.g_find_match T.F_find_match.kp T.b_find_match (pda_cons (pd_fld 0 (by exact rfl) T.o_Reader.oc (by decide +kernel)) (pda_cons (pd_fld 0 (by exact rfl) T.o_Reader.oc (by decide +kernel)) (pda_cons pd_int pda_nil))))) pdb_nil)))) (psf_cons (so_put (by exact rfl) T.o_Reader.oc (by decide +kernel) pd_str rfl (by first | exact Or.inl rfl | exact Or.inr (Or.inl rfl))) (psf_ret (pd_var 1))))⟩
theorem okf_Reader_finish (T : Top K mg fa fd) : FnOk P w K mg base CX0 3 (fa 3353) (fd 3353) ["self"] (Good (pf_Reader_finish (fa 27))) :=
  fn_good (k := 2) T.F_Reader_finish sc_Reader_finish fun cdv A outer s H E hr => ⟨_, (pds_cons (pds_set (i := 1) sc_Reader_finish.nd rfl (by first | exact Or.inl rfl | exact Or.inr rfl) (PDN.e (pn_ty (call_listAK (K := K) rfl) cn_listA (by exact rfl) T.z_list (by decide +kernel) (pdb_cons (PDE.b (pd_call (ok_find_match T) (hr.mono (by decide)) (by exact rfl) T.g_find_match T.F_find_match.kp T.b_find_match (pda_cons (pd_fld 0 (by exact rfl) T.o_Reader.oc (by decide +kernel)) (pda_cons (pd_fld 0 (by exact rfl) T.o_Reader.oc (by decide +kernel)) (pda_cons pd_int pda_nil))))) pdb_nil)))) (pds_cons (pds_putSame (by exact rfl) T.o_Reader.oc (by decide +kernel) pd_str rfl (by first | exact Or.inl rfl | exact Or.inr (Or.inl rfl))) (pds_one (pds_retV 1))))⟩
theorem ok__law_told (T : Top K mg fa fd) : FnOk P w K mg base CX0 9 (fa 39) (fd 39) ["reader", "piece"] (Good (p__law_told (fa 27))) :=
  fn_good (k := 8) T.F__law_told sc__law_told fun cdv A outer s H E hr => ⟨_, (pds_one (pd_try (Cl := fa) (i := 2) rfl rfl sc__law_told.nd rfl rfl ⟨rfl, by decide, Or.inl T.gc_BadValue⟩ (fun W pn xe => (pxs_one (px_retMth 0 T.o_Reader.oc.cls T.M_Reader_read (okx_Reader_read T) (hr.mono (by decide)) T.b_Reader_read (pda_cons (pd_var 1) pda_nil)))) (fun a oe cls d pn hz hf => pss_one (ps_ret (pe_tupF (pa_cons pe_str (pa_cons (pe_xf T.x_BadValue.xf T.x_BadValue.no hz hf (pe_var (i := 2) rfl (by first | exact Or.inl rfl | exact Or.inr (Or.inl rfl) | exact Or.inr (Or.inr rfl)))) pa_nil))))) (su_t (c0 := 2) (by decide +kernel) T.e_BadValue_BadValue)))⟩
theorem ok__law_stream (T : Top K mg fa fd) : FnOk P w K mg base CX0 1 (fa 29) (fd 29) ["script"] (spStream K) := ok_stream T.F__law_stream sc__law_stream T.z_list rfl rfl rfl
theorem ok_law (T : Top K mg fa fd) (hm : ∀ (C : Nat) (ns : List Int), ns.length ≤ 63 → ∃ S', m_law C (lawE n_law) ⟨ns, 0, 0⟩ = some (.rt (.bl true), S')) : FnOk P w K mg base CX0 10 (fa 40) (fd 40) ["script"] (spLaw K) :=
  law_good (k := 9) T.F_law sc_law (ok__law_stream T) T.F__law_stream.kp T.b__law_stream T.g__law_stream (by decide) rfl rfl rfl rfl rfl (by first | exact Or.inl rfl | exact Or.inr (Or.inl rfl)) (by first | exact Or.inl rfl | exact Or.inr rfl) (hm (fa 27)) fun cdv A outer s H E hr => ⟨_, (pds_cons (pds_set (i := 2) sc_law.nd rfl (by first | exact Or.inl rfl | exact Or.inr rfl) (pd_call (ok__law_letters T) (hr.mono (by decide)) (by exact rfl) T.g__law_letters T.F__law_letters.kp T.b__law_letters (pda_cons (pd_var 1) pda_nil))) (pds_cons (pds_set (i := 3) sc_law.nd rfl (by first | exact Or.inl rfl | exact Or.inr rfl) (pd_call (ok__law_words T) (hr.mono (by decide)) (by exact rfl) T.g__law_words T.F__law_words.kp T.b__law_words (pda_cons (pd_var 1) (pda_cons (pd_var 2) pda_nil)))) (pds_cons (pds_setN (i := 4) sc_law.nd rfl (by first | exact Or.inl rfl | exact Or.inr rfl) (pn_make T.o_Reader.mak (ok_Reader_init T) (hr.mono (by decide)) (by exact rfl) T.o_Reader.gC T.b_Reader_init (pda_cons (pd_var 3) pda_nil))) (pds_cons (pds_setN (i := 5) sc_law.nd rfl (by first | exact Or.inl rfl | exact Or.inr rfl) (pn_make T.o_Reader.mak (ok_Reader_init T) (hr.mono (by decide)) (by exact rfl) T.o_Reader.gC T.b_Reader_init (pda_cons (pd_var 3) pda_nil))) (pds_cons (pds_set (i := 6) sc_law.nd rfl (by first | exact Or.inl rfl | exact Or.inr rfl) pd_str) (pds_cons (pds_for PassesOwn.never rfl (pf_rng1 (by exact rfl) T.z_range (pdb_cons (PDE.b pd_int) pdb_nil)) (pdg_nm (i := 7) sc_law.nd rfl (by first | exact Or.inl rfl | exact Or.inr rfl)) (pds_cons (pds_set (i := 8) sc_law.nd rfl (by first | exact Or.inl rfl | exact Or.inr rfl) pd_str) (pds_cons (pds_set (i := 9) sc_law.nd rfl (by first | exact Or.inl rfl | exact Or.inr rfl) (PDN.e (pn_lst pda_nil))) (pds_cons (pds_for PassesOwn.never rfl (pf_rng1 (by exact rfl) T.z_range (pdb_cons (PDE.b (pd_call (ok__law_next T) (hr.mono (by decide)) (by exact rfl) T.g__law_next T.F__law_next.kp T.b__law_next (pda_cons (pd_var 1) (pda_cons pd_int pda_nil)))) pdb_nil)) (pdg_nm (i := 10) sc_law.nd rfl (by first | exact Or.inl rfl | exact Or.inr rfl)) (pds_cons (pds_set (i := 11) sc_law.nd rfl (by first | exact Or.inl rfl | exact Or.inr rfl) (pd_call (ok__law_string T) (hr.mono (by decide)) (by exact rfl) T.g__law_string T.F__law_string.kp T.b__law_string (pda_cons (pd_var 1) (pda_cons (pd_var 2) (pda_cons (pd_ixA (K := K) hr (PDE.b (PDN.e (pn_lst (pda_cons pd_int (pda_cons pd_int (pda_cons pd_int pda_nil)))))) (PDE.b (pd_call (ok__law_next T) (hr.mono (by decide)) (by exact rfl) T.g__law_next T.F__law_next.kp T.b__law_next (pda_cons (pd_var 1) (pda_cons pd_int pda_nil))))) pda_nil))))) (pds_cons (pds_set (i := 8) sc_law.nd rfl (by first | exact Or.inl rfl | exact Or.inr rfl) (pd_op (po_addK (K := K)) (PDE.b (pd_var 8)) (PDE.b (pd_var 11)))) (pds_cons (pds_mthS 4 T.o_Reader.oc.cls T.M_Reader_read (ok_Reader_read T) (hr.mono (by decide)) T.b_Reader_read (pda_cons (pd_var 11) pda_nil) (j := 12) sc_law.nd rfl (by first | exact Or.inl rfl | exact Or.inr rfl)) (pds_cons (pd_if (pt_notD (pt_truK (K := K) (PDE.b (pd_isiK (K := K) (PDE.b (pd_var 12)) (by exact rfl) T.z_isinstance (by exact rfl) T.z_list (by decide +kernel) (by decide +kernel))))) (pds_one (pds_ret pd_bl)) pds_nil) (pds_cons (pds_set (i := 9) sc_law.nd rfl (by first | exact Or.inl rfl | exact Or.inr rfl) (PDN.e (pn_cat (PDE.b (pd_var 9)) (PDE.b (pd_var 12))))) (pds_cons (pds_asg (pd_call (ok__law_after T) (hr.mono (by decide)) (by exact rfl) T.g__law_after T.F__law_after.kp T.b__law_after (pda_cons (pd_var 3) (pda_cons (pd_var 8) pda_nil))) (pdg_tupK (K := K) rfl (pdgs_cons (pdg_nm (i := 13) sc_law.nd rfl (by first | exact Or.inl rfl | exact Or.inr rfl)) (pdgs_cons (pdg_nm (i := 14) sc_law.nd rfl (by first | exact Or.inl rfl | exact Or.inr rfl)) pdgs_nil)))) (pds_cons (pd_if (PDW.pt (pw_orD (pt_notD (pt_truK (K := K) (PDE.b (pd_call (ok__law_equal T 6) (hr.mono (by decide)) (by exact rfl) T.g__law_equal T.F__law_equal.kp T.b__law_equal (pda_cons (pd_var 9) (pda_cons (pd_var 13) pda_nil)))))) (pw_or1D (pt_notD (pt_truK (K := K) (PDE.b (pd_call (ok__law_equal T 6) (hr.mono (by decide)) (by exact rfl) T.g__law_equal T.F__law_equal.kp T.b__law_equal (pda_cons (pd_mthB 4 T.o_Reader.oc.cls T.M_Reader_held (ok_Reader_held T) (hr.mono (by decide)) T.b_Reader_held) (pda_cons (pd_var 14) pda_nil))))))))) (pds_one (pds_ret pd_bl)) pds_nil) (pds_cons (pds_set (i := 15) sc_law.nd rfl (by first | exact Or.inl rfl | exact Or.inr rfl) (pd_ixA (K := K) hr (PDE.b (PDN.e (pn_lst (pda_cons pd_non (pda_cons pd_str (pda_cons (pd_op po_mul (PDE.b (pd_ixA (K := K) hr (PDE.b (pd_var 2)) (PDE.b pd_int))) (PDE.b pd_int)) (pda_cons pd_int (pda_cons (PDN.e (pn_lst (pda_cons (pd_ixA (K := K) hr (PDE.b (pd_var 2)) (PDE.b pd_int)) pda_nil))) pda_nil)))))))) (PDE.b (pd_call (ok__law_next T) (hr.mono (by decide)) (by exact rfl) T.g__law_next T.F__law_next.kp T.b__law_next (pda_cons (pd_var 1) (pda_cons pd_int pda_nil)))))) (pds_cons (pd_if (PDW.pt (pw_orD (pt_notD (pt_truK (K := K) (PDE.b (pd_call (ok__law_equal T 6) (hr.mono (by decide)) (by exact rfl) T.g__law_equal T.F__law_equal.kp T.b__law_equal (pda_cons (pd_callB1 (ok__law_told T) (hr.mono (by decide)) (by exact rfl) T.g__law_told T.F__law_told.kp T.b__law_told (pdb_cons (pb_var 4) (pdb_cons (PDE.b (pd_var 15)) pdb_nil))) (pda_cons (pd_tup (pda_cons pd_str (pda_cons pd_str pda_nil))) pda_nil)))))) (pw_or1D (pt_notD (pt_truK (K := K) (PDE.b (pd_call (ok__law_equal T 6) (hr.mono (by decide)) (by exact rfl) T.g__law_equal T.F__law_equal.kp T.b__law_equal (pda_cons (pd_mthB 4 T.o_Reader.oc.cls T.M_Reader_held (ok_Reader_held T) (hr.mono (by decide)) T.b_Reader_held) (pda_cons (pd_var 14) pda_nil))))))))) (pds_one (pds_ret pd_bl)) pds_nil) (pds_cons (pds_set (i := 6) sc_law.nd rfl (by first | exact Or.inl rfl | exact Or.inr rfl) (pd_op (po_addK (K := K)) (PDE.b (pd_var 6)) (PDE.b (pd_ixA (K := K) hr (PDE.b (pd_var 2)) (PDE.b (pd_neg (PDE.b pd_int))))))) (pds_cons (pds_mthD 5 T.o_Reader.oc.cls T.M_Reader_read (ok_Reader_read T) (hr.mono (by decide)) T.b_Reader_read (pda_cons (pd_ixA (K := K) hr (PDE.b (pd_var 2)) (PDE.b (pd_neg (PDE.b pd_int)))) pda_nil)) (pds_one (pd_if (PDW.pt (pw_orD (pt_notD (pt_truK (K := K) (PDE.b (pd_call (ok__law_equal T 6) (hr.mono (by decide)) (by exact rfl) T.g__law_equal T.F__law_equal.kp T.b__law_equal (pda_cons (pd_mthB 5 T.o_Reader.oc.cls T.M_Reader_held (ok_Reader_held T) (hr.mono (by decide)) T.b_Reader_held) (pda_cons (pd_ixA (K := K) hr (PDE.b (pd_call (ok__law_after T) (hr.mono (by decide)) (by exact rfl) T.g__law_after T.F__law_after.kp T.b__law_after (pda_cons (pd_var 3) (pda_cons (pd_var 6) pda_nil)))) (PDE.b pd_int)) pda_nil)))))) (pw_or1D (pt_notD (pt_truK (K := K) (PDE.b (pd_call (ok__law_equal T 6) (hr.mono (by decide)) (by exact rfl) T.g__law_equal T.F__law_equal.kp T.b__law_equal (pda_cons (pd_mthB 4 T.o_Reader.oc.cls T.M_Reader_held (ok_Reader_held T) (hr.mono (by decide)) T.b_Reader_held) (pda_cons (pd_var 14) pda_nil))))))))) (pds_one (pds_ret pd_bl)) pds_nil)))))))))))))) (pds_cons (pds_mthS0 4 T.o_Reader.oc.cls T.M_Reader_finish (ok_Reader_finish T) (hr.mono (by decide)) T.b_Reader_finish (j := 16) sc_law.nd rfl (by first | exact Or.inl rfl | exact Or.inr rfl)) (pds_cons (pd_if (PDW.pt (pw_orD (pt_notD (pt_truK (K := K) (PDE.b (pd_call (ok__law_equal T 6) (hr.mono (by decide)) (by exact rfl) T.g__law_equal T.F__law_equal.kp T.b__law_equal (pda_cons (PDN.e (pn_cat (PDE.b (pd_var 9)) (PDE.b (pd_var 16)))) (pda_cons (pd_call (ok__law_longest T) (hr.mono (by decide)) (by exact rfl) T.g__law_longest T.F__law_longest.kp T.b__law_longest (pda_cons (pd_var 3) (pda_cons (pd_var 8) pda_nil))) pda_nil)))))) (pw_or1D (pt_notD (pt_truK (K := K) (PDE.b (pd_call (ok__law_equal T 6) (hr.mono (by decide)) (by exact rfl) T.g__law_equal T.F__law_equal.kp T.b__law_equal (pda_cons (pd_mthB 4 T.o_Reader.oc.cls T.M_Reader_held (ok_Reader_held T) (hr.mono (by decide)) T.b_Reader_held) (pda_cons pd_str pda_nil))))))))) (pds_one (pds_ret pd_bl)) pds_nil) (pds_one (pd_if (PDW.pt (pw_orD (pt_notD (pt_truK (K := K) (PDE.b (pd_call (ok__law_equal T 6) (hr.mono (by decide)) (by exact rfl) T.g__law_equal T.F__law_equal.kp T.b__law_equal (pda_cons (pd_mthB 4 T.o_Reader.oc.cls T.M_Reader_finish (okf_Reader_finish T) (hr.mono (by decide)) T.b_Reader_finish) (pda_cons (PDN.e (pn_lst pda_nil)) pda_nil)))))) (pw_or1D (pt_notD (pt_truK (K := K) (PDE.b (pd_call (ok__law_equal T 6) (hr.mono (by decide)) (by exact rfl) T.g__law_equal T.F__law_equal.kp T.b__law_equal (pda_cons (pd_mthB 5 T.o_Reader.oc.cls T.M_Reader_held (ok_Reader_held T) (hr.mono (by decide)) T.b_Reader_held) (pda_cons (pd_ixA (K := K) hr (PDE.b (pd_call (ok__law_after T) (hr.mono (by decide)) (by exact rfl) T.g__law_after T.F__law_after.kp T.b__law_after (pda_cons (pd_var 3) (pda_cons (pd_var 6) pda_nil)))) (PDE.b pd_int)) pda_nil))))))))) (pds_one (pds_ret pd_bl)) pds_nil)))))))) (pds_one (pds_ret (pd_call (ok__law_equal T 6) (hr.mono (by decide)) (by exact rfl) T.g__law_equal T.F__law_equal.kp T.b__law_equal (pda_cons (pd_call (ok_after T) (hr.mono (by decide)) (by exact rfl) T.g_after T.F_after.kp T.b_after (pda_cons (pd_var 3) (pda_cons pd_str pda_nil))) (pda_cons (pd_tup (pda_cons (pd_tup pda_nil) (pda_cons pd_str pda_nil))) pda_nil)))))))))))⟩
end
end LX

set_option maxHeartbeats 1000000
namespace LX
open PySem PySem.Spec PyProof.Rows L2 PD
local macro_rules | `(tactic| walk_at "wp") => `(tactic| simp (config := { maxSteps := 3000000 }) only [↓PD.w_callB1, ↓PD.w_fld, ↓PD.w_makeN, ↓PD.w_mth, ↓PD.w_mthS, ↓PD.w_mthD, ↓PD.w_mthB, ↓PD.w_mthX, ↓PD.w_putSame, ↓PD.w_put, ↓PD.w_put2, ↓PD.seqF_nx, ↓PD.w_seqF, ↓PD.w_fin, ↓PD.w_end, ↓PD.w_runO, ↓PD.w_makeX, ↓PD.w_runI, ↓PD.exR_ex, ↓PD.exF_ex, ↓PD.w_callO, ↓PD.coK_ok, ↓PD.coK_ex, ↓PD.w_forX, ↓PD.loopX_nx, ↓PD.loopX_ct, ↓PD.loopX_bk, ↓PD.loopX_rt, ↓PD.loopX_ex, ↓PD.w_inX, ↓PD.w_lift, ↓PD.w_seqX, ↓PD.w_ifX, ↓PD.w_callX, ↓PD.w_raise, ↓PD.w_runX, ↓PD.w_try, ↓PD.seqX_nx, ↓PD.seqX_rt, ↓PD.seqX_bk, ↓PD.seqX_ct, ↓PD.seqX_ex, ↓PD.cxK_ok, ↓PD.cxK_ex, ↓PD.outX_rt, ↓PD.outX_nx, ↓PD.outX_ex, ↓PD.tryK_fl, ↓PD.tryK_ex, ↓PD.w_enumL, ↓PD.w_inG, ↓PD.w_disp, ↓PD.w_zip, ↓PD.w_mL, ↓PD.w_keys, ↓PD.w_star, ↓PD.w_enum, ↓PD.w_var, ↓PD.w_varB, ↓PD.w_c, ↓PD.w_2, ↓PD.w_nil, ↓PD.w_cons, ↓PD.w_tup, ↓PD.w_lst, ↓PD.w_call, ↓PD.w_callB, ↓PD.w_b, ↓PD.w_nop, ↓PD.w_p, ↓PD.w_sl, ↓PD.w_rev, ↓PD.w_m, ↓PD.w_is, ↓PD.w_test, ↓PD.w_tru, ↓PD.w_notT, ↓PD.w_andT, ↓PD.w_orT, ↓PD.w_andV, ↓PD.w_notV, ↓PD.w_ifE, ↓PD.w_chain, ↓PD.w_neg, ↓PD.w_it, ↓PD.w_rng1, ↓PD.w_rng2E, ↓PD.w_lc, ↓PD.w_lc2, ↓PD.w_sortSet, ↓PD.w_sortLen, ↓PD.w_thenF, ↓PD.w_dnew, ↓PD.w_dput, ↓PD.w_aug, ↓PD.w_putI, ↓PD.w_augI, ↓PD.w_revR, ↓PD.thenK_nx, ↓PD.w_bNm, ↓PD.w_bTup, ↓PD.w_bTupP, ↓PD.w_bTupN, ↓PD.w_bCons, ↓PD.w_bNil, ↓PD.nOw_no, ↓PD.nOw_fz, ↓PD.w_yes, ↓PD.w_seq, ↓PD.w_next, ↓PD.w_bk, ↓PD.w_ct, ↓PD.w_no, ↓PD.w_if, ↓PD.w_set, ↓PD.w_setN, ↓PD.w_asg, ↓PD.w_ret, ↓PD.w_retV, ↓PD.w_retN, ↓PD.w_drop, ↓PD.w_app, ↓PD.w_ext, ↓PD.w_for, ↓PD.w_run, ↓PD.w_str, ↓PD.w_strP, ↓PD.seqK_nx, ↓PD.seqK_rt, ↓PD.seqK_bk, ↓PD.seqK_ct, ↓PD.outP_rt, ↓PD.outP_nx, ↓PD.loopK_nx, ↓PD.loopK_ct, ↓PD.loopK_bk, ↓PD.loopK_rt, ↓PD.isB_bl, ↓PD.isI_int, ↓PD.isS_str, ↓PD.pu_some, ↓PD.pu_none, ↓PD.ok_some, ↓PD.ok_none, PD.gInG_str, PD.gInX_str, PD.sdF_1, PD.sdT_1, PD.gCount_ints, PD.gMinA_lst, PD.gMaxA_lst, PD.seqD_lst, PD.seqD_tup, PD.gMul_int, PD.gMul_str, PD.gI_, PD.gI0_, PD.gAdd_int, PD.gAdd_str, PD.gAdd_tup, PD.gLt_int, PD.gLe_int, PD.gGt_int, PD.gGe_int, PD.gLen_str, PD.gLen_lst, PD.gLen_tup, PD.gAbs_, PD.gIntOf_int, PD.gIx_lst, PD.gIx_tup, PD.gIx_str, PD.gIxA_lst, PD.gIxA_tup, PD.gIxA_str, PD.gIxA_dk, PD.gIxA_dkI, PD.gInA_sign, PD.gInA_strs, PD.gNotInA_strs, PD.gInA_dk, PD.gLenA_str, PD.gLenA_lst, PD.gLenA_tup, PD.gLenA_dk, PD.gIntOf_bl, PD.gSortD_lst, PD.gTupB_lst, PD.gTupB_tup, PD.gTupB_str, PD.gGeA_int, PD.gGeA_ints, PD.gCat_, PD.gRepA_, PD.gStarts_1, PD.gStarts_3, PD.gEnds_1, PD.gEnds_4, PD.dKey_str, PD.dKey_int, PD.gSl_lst, PD.gSl_tup, PD.gSl_str, PD.gRev_lst, PD.gRev_tup, PD.gRev_str, PD.gLstA_lst, PD.gLstA_tup, PD.gLstA_str, PD.gTupA_lst, PD.gTupA_tup, PD.gAll_, PD.gAny_, PD.gSum_, PD.gSortA_strs, PD.gSortA_pairs, PD.gJoin_lst, PD.gEq_int, PD.gEq_bl, PD.gIs_non, PD.gIn_sign, PD.gIn_strs, PD.gNotIn_strs, PD.items_lst, PD.items_tup, PD.items_str, PD.rng1_, PD.rng2_, PD.dTru_bl, PD.dTru_int, PD.dTru_non, PD.dTru_tup, PD.dTru_lst, PD.dTru_str, PD.pairD, PD.isTy_int_non, PD.isTy_int_bl, PD.isTy_int_int, PD.isTy_int_str, PD.isTy_int_tup, PD.isTy_int_lst, PD.isTy_bool_non, PD.isTy_bool_bl, PD.isTy_bool_int, PD.isTy_bool_str, PD.isTy_bool_tup, PD.isTy_bool_lst, PD.isTy_str_non, PD.isTy_str_bl, PD.isTy_str_int, PD.isTy_str_str, PD.isTy_str_tup, PD.isTy_str_lst, PD.isTy_tuple_non, PD.isTy_tuple_bl, PD.isTy_tuple_int, PD.isTy_tuple_str, PD.isTy_tuple_tup, PD.isTy_tuple_lst, PD.isTy_list_non, PD.isTy_list_bl, PD.isTy_list_int, PD.isTy_list_str, PD.isTy_list_tup, PD.isTy_list_lst, PD.wipeE, PD.initE, List.length_cons, List.length_nil, List.length_map, List.map_cons, List.map_nil, List.getElem?_cons_zero, List.getElem?_cons_succ, List.getElem?_nil, List.set_cons_zero, List.set_cons_succ, List.replicate_succ, List.replicate_zero, List.cons_append, List.nil_append, Option.some.injEq, Option.bind_some, Option.map_some, Slo.fz.injEq, Slo.ow.injEq, Dat.bl.injEq, Dat.int.injEq, Dat.str.injEq, Dat.tup.injEq, Dat.lst.injEq, Dat.dk.injEq, List.cons.injEq, reduceCtorEq, exists_eq_left, exists_eq_left', exists_and_left, false_or, or_false, true_or, false_and, and_false, true_and, and_true, if_true, if_false, Bool.not_true, Bool.not_false, Bool.false_eq_true, Bool.true_eq_false, Bool.false_xor, Bool.true_xor, decide_eq_true_eq, decide_eq_false_iff_not, Nat.reduceAdd, Nat.reduceSub, Nat.reduceLT, Nat.reduceLeDiff, Nat.zero_add, Nat.zero_lt_succ, Nat.reduceEqDiff, Int.reduceEq, Int.reduceNeg, reduceIte, eq_self_iff_true, ne_eq, not_true_eq_false, not_false_eq_true, Int.reduceAdd, Int.reduceSub, Int.reduceLT, Int.reduceLE, Int.reducePow, Int.reduceToNat, Int.toNat_natCast])

/-- the stream may be read on -/
theorem ite_all {c A B : Prop} [Decidable c] (a : c → A) (b : ¬ c → B) : if c then A else B := by
  split
  · exact a (by assumption)
  · exact b (by assumption)
structure Gd (S : Sm) : Prop where
  len : S.scr.length ≤ 1000
  k : 0 ≤ S.k
theorem cMul_r {i j : Int} (h : -18446744073709551616 < j) (h2 : j < 18446744073709551616) : cMul i j = true := by
  unfold cMul
  rw [Bool.or_eq_true]
  exact .inr (by rw [Bool.and_eq_true]; exact ⟨decide_eq_true h, decide_eq_true h2⟩)
theorem next_ok {S : Sm} {many : Int} (g : Gd S) (h0 : 0 < many) (h1 : many < 1073741824) : Ok (p__law_next [.strm, .int many] S) fun d S' => Gd S' ∧ ∃ i : Nat, d = .int i ∧ (i : Int) < many := by
  have fin : ∀ n : Int, ∃ i : Nat, n % many = i ∧ (i : Int) < many := fun n => ⟨(n % many).toNat, (Int.toNat_of_nonneg (Int.emod_nonneg _ (by omega))).symm, by rw [Int.toNat_of_nonneg (Int.emod_nonneg _ (by omega))]; exact Int.emod_lt_of_pos _ h0⟩
  have cd : ∀ n : Int, cDiv n many = true := fun n => by
    unfold cDiv; rw [Bool.and_eq_true]; exact ⟨decide_eq_true h0, decide_eq_true h1⟩
  have hp : cPow 10 18 = true := by decide
  have gk : ∀ c, Gd { scr := S.scr, cell := c, k := S.k + 1 } := fun c => ⟨g.len, by have := g.k; show (0 : Int) ≤ S.k + 1; omega⟩
  have mul : ∀ i j : Int, -18446744073709551616 < j → j < 18446744073709551616 → cMul i j = true := fun i j => cMul_r
  unfold p__law_next m__law_next
  walk_at "wp"
  refine ⟨g.len, ite_all (fun h => ⟨g.len, g.len, ite_all (fun hk => ⟨g.len, ?_⟩) fun hk => ?_⟩) fun h => ?_⟩
  · have e : ∃ n, atI (S.scr.map Dat.int) S.k = some (.int n) := by
      have hk0 := g.k
      have hi : S.k.toNat < S.scr.length := by omega
      refine ⟨S.scr[S.k.toNat], ?_⟩
      have := atI_nat (xs := S.scr.map Dat.int) (j := S.k.toNat) (v := .int S.scr[S.k.toNat]) (by rw [List.getElem?_map, List.getElem?_eq_getElem hi]; rfl)
      rwa [Int.toNat_of_nonneg hk0] at this
    obtain ⟨n, e⟩ := e
    rw [e]
    walk_at "wp"
    refine ⟨hp, ite_all (fun _ => ?_) fun _ => ?_⟩
    · exact ⟨mul _ _ (by decide) (by decide), mul _ _ (by decide) (by decide), mul _ _ (by decide) (by decide), mul _ _ (by decide) (by decide), g.len, h0, g.len, cd _, gk _, fin _⟩
    · exact ⟨g.len, h0, g.len, cd _, gk _, fin _⟩
  · try walk_at "wp"
    refine ⟨hp, ite_all (fun _ => ?_) fun _ => ?_⟩
    · exact ⟨mul _ _ (by decide) (by decide), mul _ _ (by decide) (by decide), mul _ _ (by decide) (by decide), mul _ _ (by decide) (by decide), g.len, h0, g.len, cd _, gk _, fin _⟩
    · exact ⟨g.len, h0, g.len, cd _, gk _, fin _⟩
  · try walk_at "wp"
    exact ⟨g.len, h0, g.len, cd _, ⟨g.len, g.k⟩, fin _⟩

end LX

set_option maxHeartbeats 1000000
namespace LX
open PySem PySem.Spec PyProof.Rows L2 PD
local macro_rules | `(tactic| walk_at "wp") => `(tactic| simp (config := { maxSteps := 3000000 }) only [↓PD.w_callB1, ↓PD.w_fld, ↓PD.w_makeN, ↓PD.w_mth, ↓PD.w_mthS, ↓PD.w_mthD, ↓PD.w_mthB, ↓PD.w_mthX, ↓PD.w_putSame, ↓PD.w_put, ↓PD.w_put2, ↓PD.seqF_nx, ↓PD.w_seqF, ↓PD.w_fin, ↓PD.w_end, ↓PD.w_runO, ↓PD.w_makeX, ↓PD.w_runI, ↓PD.exR_ex, ↓PD.exF_ex, ↓PD.w_callO, ↓PD.coK_ok, ↓PD.coK_ex, ↓PD.w_forX, ↓PD.loopX_nx, ↓PD.loopX_ct, ↓PD.loopX_bk, ↓PD.loopX_rt, ↓PD.loopX_ex, ↓PD.w_inX, ↓PD.w_lift, ↓PD.w_seqX, ↓PD.w_ifX, ↓PD.w_callX, ↓PD.w_raise, ↓PD.w_runX, ↓PD.w_try, ↓PD.seqX_nx, ↓PD.seqX_rt, ↓PD.seqX_bk, ↓PD.seqX_ct, ↓PD.seqX_ex, ↓PD.cxK_ok, ↓PD.cxK_ex, ↓PD.outX_rt, ↓PD.outX_nx, ↓PD.outX_ex, ↓PD.tryK_fl, ↓PD.tryK_ex, ↓PD.w_enumL, ↓PD.w_inG, ↓PD.w_disp, ↓PD.w_zip, ↓PD.w_mL, ↓PD.w_keys, ↓PD.w_star, ↓PD.w_enum, ↓PD.w_var, ↓PD.w_varB, ↓PD.w_c, ↓PD.w_2, ↓PD.w_nil, ↓PD.w_cons, ↓PD.w_tup, ↓PD.w_lst, ↓PD.w_call, ↓PD.w_callB, ↓PD.w_b, ↓PD.w_nop, ↓PD.w_p, ↓PD.w_sl, ↓PD.w_rev, ↓PD.w_m, ↓PD.w_is, ↓PD.w_test, ↓PD.w_tru, ↓PD.w_notT, ↓PD.w_andT, ↓PD.w_orT, ↓PD.w_andV, ↓PD.w_notV, ↓PD.w_ifE, ↓PD.w_chain, ↓PD.w_neg, ↓PD.w_it, ↓PD.w_rng1, ↓PD.w_rng2E, ↓PD.w_lc, ↓PD.w_lc2, ↓PD.w_sortSet, ↓PD.w_sortLen, ↓PD.w_thenF, ↓PD.w_dnew, ↓PD.w_dput, ↓PD.w_aug, ↓PD.w_putI, ↓PD.w_augI, ↓PD.w_revR, ↓PD.thenK_nx, ↓PD.w_bNm, ↓PD.w_bTup, ↓PD.w_bTupP, ↓PD.w_bTupN, ↓PD.w_bCons, ↓PD.w_bNil, ↓PD.nOw_no, ↓PD.nOw_fz, ↓PD.w_yes, ↓PD.w_seq, ↓PD.w_next, ↓PD.w_bk, ↓PD.w_ct, ↓PD.w_no, ↓PD.w_if, ↓PD.w_set, ↓PD.w_setN, ↓PD.w_asg, ↓PD.w_ret, ↓PD.w_retV, ↓PD.w_retN, ↓PD.w_drop, ↓PD.w_app, ↓PD.w_ext, ↓PD.w_for, ↓PD.w_run, ↓PD.w_str, ↓PD.w_strP, ↓PD.seqK_nx, ↓PD.seqK_rt, ↓PD.seqK_bk, ↓PD.seqK_ct, ↓PD.outP_rt, ↓PD.outP_nx, ↓PD.loopK_nx, ↓PD.loopK_ct, ↓PD.loopK_bk, ↓PD.loopK_rt, ↓PD.isB_bl, ↓PD.isI_int, ↓PD.isS_str, ↓PD.pu_some, ↓PD.pu_none, ↓PD.ok_some, ↓PD.ok_none, PD.gInG_str, PD.gInX_str, PD.sdF_1, PD.sdT_1, PD.gCount_ints, PD.gMinA_lst, PD.gMaxA_lst, PD.seqD_lst, PD.seqD_tup, PD.gMul_int, PD.gMul_str, PD.gI_, PD.gI0_, PD.gAdd_int, PD.gAdd_str, PD.gAdd_tup, PD.gLt_int, PD.gLe_int, PD.gGt_int, PD.gGe_int, PD.gLen_str, PD.gLen_lst, PD.gLen_tup, PD.gAbs_, PD.gIntOf_int, PD.gIx_lst, PD.gIx_tup, PD.gIx_str, PD.gIxA_lst, PD.gIxA_tup, PD.gIxA_str, PD.gIxA_dk, PD.gIxA_dkI, PD.gInA_sign, PD.gInA_strs, PD.gNotInA_strs, PD.gInA_dk, PD.gLenA_str, PD.gLenA_lst, PD.gLenA_tup, PD.gLenA_dk, PD.gIntOf_bl, PD.gSortD_lst, PD.gTupB_lst, PD.gTupB_tup, PD.gTupB_str, PD.gGeA_int, PD.gGeA_ints, PD.gCat_, PD.gRepA_, PD.gStarts_1, PD.gStarts_3, PD.gEnds_1, PD.gEnds_4, PD.dKey_str, PD.dKey_int, PD.gSl_lst, PD.gSl_tup, PD.gSl_str, PD.gRev_lst, PD.gRev_tup, PD.gRev_str, PD.gLstA_lst, PD.gLstA_tup, PD.gLstA_str, PD.gTupA_lst, PD.gTupA_tup, PD.gAll_, PD.gAny_, PD.gSum_, PD.gSortA_strs, PD.gSortA_pairs, PD.gJoin_lst, PD.gEq_int, PD.gEq_bl, PD.gIs_non, PD.gIn_sign, PD.gIn_strs, PD.gNotIn_strs, PD.items_lst, PD.items_tup, PD.items_str, PD.rng1_, PD.rng2_, PD.dTru_bl, PD.dTru_int, PD.dTru_non, PD.dTru_tup, PD.dTru_lst, PD.dTru_str, PD.pairD, PD.isTy_int_non, PD.isTy_int_bl, PD.isTy_int_int, PD.isTy_int_str, PD.isTy_int_tup, PD.isTy_int_lst, PD.isTy_bool_non, PD.isTy_bool_bl, PD.isTy_bool_int, PD.isTy_bool_str, PD.isTy_bool_tup, PD.isTy_bool_lst, PD.isTy_str_non, PD.isTy_str_bl, PD.isTy_str_int, PD.isTy_str_str, PD.isTy_str_tup, PD.isTy_str_lst, PD.isTy_tuple_non, PD.isTy_tuple_bl, PD.isTy_tuple_int, PD.isTy_tuple_str, PD.isTy_tuple_tup, PD.isTy_tuple_lst, PD.isTy_list_non, PD.isTy_list_bl, PD.isTy_list_int, PD.isTy_list_str, PD.isTy_list_tup, PD.isTy_list_lst, PD.wipeE, PD.initE, List.length_cons, List.length_nil, List.length_map, List.map_cons, List.map_nil, List.getElem?_cons_zero, List.getElem?_cons_succ, List.getElem?_nil, List.set_cons_zero, List.set_cons_succ, List.replicate_succ, List.replicate_zero, List.cons_append, List.nil_append, Option.some.injEq, Option.bind_some, Option.map_some, Slo.fz.injEq, Slo.ow.injEq, Dat.bl.injEq, Dat.int.injEq, Dat.str.injEq, Dat.tup.injEq, Dat.lst.injEq, Dat.dk.injEq, List.cons.injEq, reduceCtorEq, exists_eq_left, exists_eq_left', exists_and_left, false_or, or_false, true_or, false_and, and_false, true_and, and_true, if_true, if_false, Bool.not_true, Bool.not_false, Bool.false_eq_true, Bool.true_eq_false, Bool.false_xor, Bool.true_xor, decide_eq_true_eq, decide_eq_false_iff_not, Nat.reduceAdd, Nat.reduceSub, Nat.reduceLT, Nat.reduceLeDiff, Nat.zero_add, Nat.zero_lt_succ, Nat.reduceEqDiff, Int.reduceEq, Int.reduceNeg, reduceIte, eq_self_iff_true, ne_eq, not_true_eq_false, not_false_eq_true, Int.reduceAdd, Int.reduceSub, Int.reduceLT, Int.reduceLE, Int.reducePow, Int.reduceToNat, Int.toNat_natCast])

theorem pu_at {α : Type} {xs : List α} {i : Nat} {Q : α → Prop} (h : i < xs.length) (q : Q xs[i]) : Pu (atI xs (i : Int)) Q := ⟨_, atI_nat (List.getElem?_eq_getElem h), q⟩
end LX

set_option maxHeartbeats 1000000
namespace LX
open PySem PySem.Spec PyProof.Rows L2 PD
local macro_rules | `(tactic| walk_at "wp") => `(tactic| simp (config := { maxSteps := 3000000 }) only [↓PD.w_callB1, ↓PD.w_fld, ↓PD.w_makeN, ↓PD.w_mth, ↓PD.w_mthS, ↓PD.w_mthD, ↓PD.w_mthB, ↓PD.w_mthX, ↓PD.w_putSame, ↓PD.w_put, ↓PD.w_put2, ↓PD.seqF_nx, ↓PD.w_seqF, ↓PD.w_fin, ↓PD.w_end, ↓PD.w_runO, ↓PD.w_makeX, ↓PD.w_runI, ↓PD.exR_ex, ↓PD.exF_ex, ↓PD.w_callO, ↓PD.coK_ok, ↓PD.coK_ex, ↓PD.w_forX, ↓PD.loopX_nx, ↓PD.loopX_ct, ↓PD.loopX_bk, ↓PD.loopX_rt, ↓PD.loopX_ex, ↓PD.w_inX, ↓PD.w_lift, ↓PD.w_seqX, ↓PD.w_ifX, ↓PD.w_callX, ↓PD.w_raise, ↓PD.w_runX, ↓PD.w_try, ↓PD.seqX_nx, ↓PD.seqX_rt, ↓PD.seqX_bk, ↓PD.seqX_ct, ↓PD.seqX_ex, ↓PD.cxK_ok, ↓PD.cxK_ex, ↓PD.outX_rt, ↓PD.outX_nx, ↓PD.outX_ex, ↓PD.tryK_fl, ↓PD.tryK_ex, ↓PD.w_enumL, ↓PD.w_inG, ↓PD.w_disp, ↓PD.w_zip, ↓PD.w_mL, ↓PD.w_keys, ↓PD.w_star, ↓PD.w_enum, ↓PD.w_var, ↓PD.w_varB, ↓PD.w_c, ↓PD.w_2, ↓PD.w_nil, ↓PD.w_cons, ↓PD.w_tup, ↓PD.w_lst, ↓PD.w_call, ↓PD.w_callB, ↓PD.w_b, ↓PD.w_nop, ↓PD.w_p, ↓PD.w_sl, ↓PD.w_rev, ↓PD.w_m, ↓PD.w_is, ↓PD.w_test, ↓PD.w_tru, ↓PD.w_notT, ↓PD.w_andT, ↓PD.w_orT, ↓PD.w_andV, ↓PD.w_notV, ↓PD.w_ifE, ↓PD.w_chain, ↓PD.w_neg, ↓PD.w_it, ↓PD.w_rng1, ↓PD.w_rng2E, ↓PD.w_lc, ↓PD.w_lc2, ↓PD.w_sortSet, ↓PD.w_sortLen, ↓PD.w_thenF, ↓PD.w_dnew, ↓PD.w_dput, ↓PD.w_aug, ↓PD.w_putI, ↓PD.w_augI, ↓PD.w_revR, ↓PD.thenK_nx, ↓PD.w_bNm, ↓PD.w_bTup, ↓PD.w_bTupP, ↓PD.w_bTupN, ↓PD.w_bCons, ↓PD.w_bNil, ↓PD.nOw_no, ↓PD.nOw_fz, ↓PD.w_yes, ↓PD.w_seq, ↓PD.w_next, ↓PD.w_bk, ↓PD.w_ct, ↓PD.w_no, ↓PD.w_if, ↓PD.w_set, ↓PD.w_setN, ↓PD.w_asg, ↓PD.w_ret, ↓PD.w_retV, ↓PD.w_retN, ↓PD.w_drop, ↓PD.w_app, ↓PD.w_ext, ↓PD.w_for, ↓PD.w_run, ↓PD.w_str, ↓PD.w_strP, ↓PD.seqK_nx, ↓PD.seqK_rt, ↓PD.seqK_bk, ↓PD.seqK_ct, ↓PD.outP_rt, ↓PD.outP_nx, ↓PD.loopK_nx, ↓PD.loopK_ct, ↓PD.loopK_bk, ↓PD.loopK_rt, ↓PD.isB_bl, ↓PD.isI_int, ↓PD.isS_str, ↓PD.pu_some, ↓PD.pu_none, ↓PD.ok_some, ↓PD.ok_none, PD.gInG_str, PD.gInX_str, PD.sdF_1, PD.sdT_1, PD.gCount_ints, PD.gMinA_lst, PD.gMaxA_lst, PD.seqD_lst, PD.seqD_tup, PD.gMul_int, PD.gMul_str, PD.gI_, PD.gI0_, PD.gAdd_int, PD.gAdd_str, PD.gAdd_tup, PD.gLt_int, PD.gLe_int, PD.gGt_int, PD.gGe_int, PD.gLen_str, PD.gLen_lst, PD.gLen_tup, PD.gAbs_, PD.gIntOf_int, PD.gIx_lst, PD.gIx_tup, PD.gIx_str, PD.gIxA_lst, PD.gIxA_tup, PD.gIxA_str, PD.gIxA_dk, PD.gIxA_dkI, PD.gInA_sign, PD.gInA_strs, PD.gNotInA_strs, PD.gInA_dk, PD.gLenA_str, PD.gLenA_lst, PD.gLenA_tup, PD.gLenA_dk, PD.gIntOf_bl, PD.gSortD_lst, PD.gTupB_lst, PD.gTupB_tup, PD.gTupB_str, PD.gGeA_int, PD.gGeA_ints, PD.gCat_, PD.gRepA_, PD.gStarts_1, PD.gStarts_3, PD.gEnds_1, PD.gEnds_4, PD.dKey_str, PD.dKey_int, PD.gSl_lst, PD.gSl_tup, PD.gSl_str, PD.gRev_lst, PD.gRev_tup, PD.gRev_str, PD.gLstA_lst, PD.gLstA_tup, PD.gLstA_str, PD.gTupA_lst, PD.gTupA_tup, PD.gAll_, PD.gAny_, PD.gSum_, PD.gSortA_strs, PD.gSortA_pairs, PD.gJoin_lst, PD.gEq_int, PD.gEq_bl, PD.gIs_non, PD.gIn_sign, PD.gIn_strs, PD.gNotIn_strs, PD.items_lst, PD.items_tup, PD.items_str, PD.rng1_, PD.rng2_, PD.dTru_bl, PD.dTru_int, PD.dTru_non, PD.dTru_tup, PD.dTru_lst, PD.dTru_str, PD.pairD, PD.isTy_int_non, PD.isTy_int_bl, PD.isTy_int_int, PD.isTy_int_str, PD.isTy_int_tup, PD.isTy_int_lst, PD.isTy_bool_non, PD.isTy_bool_bl, PD.isTy_bool_int, PD.isTy_bool_str, PD.isTy_bool_tup, PD.isTy_bool_lst, PD.isTy_str_non, PD.isTy_str_bl, PD.isTy_str_int, PD.isTy_str_str, PD.isTy_str_tup, PD.isTy_str_lst, PD.isTy_tuple_non, PD.isTy_tuple_bl, PD.isTy_tuple_int, PD.isTy_tuple_str, PD.isTy_tuple_tup, PD.isTy_tuple_lst, PD.isTy_list_non, PD.isTy_list_bl, PD.isTy_list_int, PD.isTy_list_str, PD.isTy_list_tup, PD.isTy_list_lst, PD.wipeE, PD.initE, List.length_cons, List.length_nil, List.length_map, List.map_cons, List.map_nil, List.getElem?_cons_zero, List.getElem?_cons_succ, List.getElem?_nil, List.set_cons_zero, List.set_cons_succ, List.replicate_succ, List.replicate_zero, List.cons_append, List.nil_append, Option.some.injEq, Option.bind_some, Option.map_some, Slo.fz.injEq, Slo.ow.injEq, Dat.bl.injEq, Dat.int.injEq, Dat.str.injEq, Dat.tup.injEq, Dat.lst.injEq, Dat.dk.injEq, List.cons.injEq, reduceCtorEq, exists_eq_left, exists_eq_left', exists_and_left, false_or, or_false, true_or, false_and, and_false, true_and, and_true, if_true, if_false, Bool.not_true, Bool.not_false, Bool.false_eq_true, Bool.true_eq_false, Bool.false_xor, Bool.true_xor, decide_eq_true_eq, decide_eq_false_iff_not, Nat.reduceAdd, Nat.reduceSub, Nat.reduceLT, Nat.reduceLeDiff, Nat.zero_add, Nat.zero_lt_succ, Nat.reduceEqDiff, Int.reduceEq, Int.reduceNeg, reduceIte, eq_self_iff_true, ne_eq, not_true_eq_false, not_false_eq_true, Int.reduceAdd, Int.reduceSub, Int.reduceLT, Int.reduceLE, Int.reducePow, Int.reduceToNat, Int.toNat_natCast])

theorem cutS_mem {x : Str} {lo hi : Option Int} {c : Nat} (h : c ∈ (cutS x lo hi).cps.toList) : c ∈ x.cps.toList := List.mem_of_mem_drop (List.mem_of_mem_take h)
theorem cut3_len (x : Str) : (cutS x (some (-3)) none).length ≤ 3 := by
  show (((x.cps.toList.drop (HT.sIx x.length 0 (some (-3)))).take (HT.sIx x.length x.length none - HT.sIx x.length 0 (some (-3)))).toArray).size ≤ 3
  rw [List.size_toArray, List.length_take, List.length_drop, ← len_cps]
  have : x.length - 3 ≤ HT.sIx x.length 0 (some (-3)) := by
    show x.length - 3 ≤ if (-3 : Int) < 0 then ((-3 : Int) + (x.length : Int)).toNat else min (-3 : Int).toNat x.length
    rw [if_pos (by decide)]
    omega
  omega
/-- the names of a drawn word list -/
structure Nm (L : List Nat) (ns : List Str) : Prop where
  nd : ns.Nodup
  few : ns.length ≤ 8
  at_ : ∀ n ∈ ns, 1 ≤ n.length ∧ n.length ≤ 4 ∧ ∀ c ∈ n.cps.toList, c ∈ L
  has : ∀ c ∈ L, sg c ∈ ns
end LX

set_option maxHeartbeats 1000000
namespace LX
open PySem PySem.Spec PyProof.Rows L2 PD
local macro_rules | `(tactic| walk_at "wp") => `(tactic| simp (config := { maxSteps := 3000000 }) only [↓PD.w_callB1, ↓PD.w_fld, ↓PD.w_makeN, ↓PD.w_mth, ↓PD.w_mthS, ↓PD.w_mthD, ↓PD.w_mthB, ↓PD.w_mthX, ↓PD.w_putSame, ↓PD.w_put, ↓PD.w_put2, ↓PD.seqF_nx, ↓PD.w_seqF, ↓PD.w_fin, ↓PD.w_end, ↓PD.w_runO, ↓PD.w_makeX, ↓PD.w_runI, ↓PD.exR_ex, ↓PD.exF_ex, ↓PD.w_callO, ↓PD.coK_ok, ↓PD.coK_ex, ↓PD.w_forX, ↓PD.loopX_nx, ↓PD.loopX_ct, ↓PD.loopX_bk, ↓PD.loopX_rt, ↓PD.loopX_ex, ↓PD.w_inX, ↓PD.w_lift, ↓PD.w_seqX, ↓PD.w_ifX, ↓PD.w_callX, ↓PD.w_raise, ↓PD.w_runX, ↓PD.w_try, ↓PD.seqX_nx, ↓PD.seqX_rt, ↓PD.seqX_bk, ↓PD.seqX_ct, ↓PD.seqX_ex, ↓PD.cxK_ok, ↓PD.cxK_ex, ↓PD.outX_rt, ↓PD.outX_nx, ↓PD.outX_ex, ↓PD.tryK_fl, ↓PD.tryK_ex, ↓PD.w_enumL, ↓PD.w_inG, ↓PD.w_disp, ↓PD.w_zip, ↓PD.w_mL, ↓PD.w_keys, ↓PD.w_star, ↓PD.w_enum, ↓PD.w_var, ↓PD.w_varB, ↓PD.w_c, ↓PD.w_2, ↓PD.w_nil, ↓PD.w_cons, ↓PD.w_tup, ↓PD.w_lst, ↓PD.w_call, ↓PD.w_callB, ↓PD.w_b, ↓PD.w_nop, ↓PD.w_p, ↓PD.w_sl, ↓PD.w_rev, ↓PD.w_m, ↓PD.w_is, ↓PD.w_test, ↓PD.w_tru, ↓PD.w_notT, ↓PD.w_andT, ↓PD.w_orT, ↓PD.w_andV, ↓PD.w_notV, ↓PD.w_ifE, ↓PD.w_chain, ↓PD.w_neg, ↓PD.w_it, ↓PD.w_rng1, ↓PD.w_rng2E, ↓PD.w_lc, ↓PD.w_lc2, ↓PD.w_sortSet, ↓PD.w_sortLen, ↓PD.w_thenF, ↓PD.w_dnew, ↓PD.w_dput, ↓PD.w_aug, ↓PD.w_putI, ↓PD.w_augI, ↓PD.w_revR, ↓PD.thenK_nx, ↓PD.w_bNm, ↓PD.w_bTup, ↓PD.w_bTupP, ↓PD.w_bTupN, ↓PD.w_bCons, ↓PD.w_bNil, ↓PD.nOw_no, ↓PD.nOw_fz, ↓PD.w_yes, ↓PD.w_seq, ↓PD.w_next, ↓PD.w_bk, ↓PD.w_ct, ↓PD.w_no, ↓PD.w_if, ↓PD.w_set, ↓PD.w_setN, ↓PD.w_asg, ↓PD.w_ret, ↓PD.w_retV, ↓PD.w_retN, ↓PD.w_drop, ↓PD.w_app, ↓PD.w_ext, ↓PD.w_for, ↓PD.w_run, ↓PD.w_str, ↓PD.w_strP, ↓PD.seqK_nx, ↓PD.seqK_rt, ↓PD.seqK_bk, ↓PD.seqK_ct, ↓PD.outP_rt, ↓PD.outP_nx, ↓PD.loopK_nx, ↓PD.loopK_ct, ↓PD.loopK_bk, ↓PD.loopK_rt, ↓PD.isB_bl, ↓PD.isI_int, ↓PD.isS_str, ↓PD.pu_some, ↓PD.pu_none, ↓PD.ok_some, ↓PD.ok_none, PD.gInG_str, PD.gInX_str, PD.sdF_1, PD.sdT_1, PD.gCount_ints, PD.gMinA_lst, PD.gMaxA_lst, PD.seqD_lst, PD.seqD_tup, PD.gMul_int, PD.gMul_str, PD.gI_, PD.gI0_, PD.gAdd_int, PD.gAdd_str, PD.gAdd_tup, PD.gLt_int, PD.gLe_int, PD.gGt_int, PD.gGe_int, PD.gLen_str, PD.gLen_lst, PD.gLen_tup, PD.gAbs_, PD.gIntOf_int, PD.gIx_lst, PD.gIx_tup, PD.gIx_str, PD.gIxA_lst, PD.gIxA_tup, PD.gIxA_str, PD.gIxA_dk, PD.gIxA_dkI, PD.gInA_sign, PD.gInA_strs, PD.gNotInA_strs, PD.gInA_dk, PD.gLenA_str, PD.gLenA_lst, PD.gLenA_tup, PD.gLenA_dk, PD.gIntOf_bl, PD.gSortD_lst, PD.gTupB_lst, PD.gTupB_tup, PD.gTupB_str, PD.gGeA_int, PD.gGeA_ints, PD.gCat_, PD.gRepA_, PD.gStarts_1, PD.gStarts_3, PD.gEnds_1, PD.gEnds_4, PD.dKey_str, PD.dKey_int, PD.gSl_lst, PD.gSl_tup, PD.gSl_str, PD.gRev_lst, PD.gRev_tup, PD.gRev_str, PD.gLstA_lst, PD.gLstA_tup, PD.gLstA_str, PD.gTupA_lst, PD.gTupA_tup, PD.gAll_, PD.gAny_, PD.gSum_, PD.gSortA_strs, PD.gSortA_pairs, PD.gJoin_lst, PD.gEq_int, PD.gEq_bl, PD.gIs_non, PD.gIn_sign, PD.gIn_strs, PD.gNotIn_strs, PD.items_lst, PD.items_tup, PD.items_str, PD.rng1_, PD.rng2_, PD.dTru_bl, PD.dTru_int, PD.dTru_non, PD.dTru_tup, PD.dTru_lst, PD.dTru_str, PD.pairD, PD.isTy_int_non, PD.isTy_int_bl, PD.isTy_int_int, PD.isTy_int_str, PD.isTy_int_tup, PD.isTy_int_lst, PD.isTy_bool_non, PD.isTy_bool_bl, PD.isTy_bool_int, PD.isTy_bool_str, PD.isTy_bool_tup, PD.isTy_bool_lst, PD.isTy_str_non, PD.isTy_str_bl, PD.isTy_str_int, PD.isTy_str_str, PD.isTy_str_tup, PD.isTy_str_lst, PD.isTy_tuple_non, PD.isTy_tuple_bl, PD.isTy_tuple_int, PD.isTy_tuple_str, PD.isTy_tuple_tup, PD.isTy_tuple_lst, PD.isTy_list_non, PD.isTy_list_bl, PD.isTy_list_int, PD.isTy_list_str, PD.isTy_list_tup, PD.isTy_list_lst, PD.wipeE, PD.initE, List.length_cons, List.length_nil, List.length_map, List.map_cons, List.map_nil, List.getElem?_cons_zero, List.getElem?_cons_succ, List.getElem?_nil, List.set_cons_zero, List.set_cons_succ, List.replicate_succ, List.replicate_zero, List.cons_append, List.nil_append, Option.some.injEq, Option.bind_some, Option.map_some, Slo.fz.injEq, Slo.ow.injEq, Dat.bl.injEq, Dat.int.injEq, Dat.str.injEq, Dat.tup.injEq, Dat.lst.injEq, Dat.dk.injEq, List.cons.injEq, reduceCtorEq, exists_eq_left, exists_eq_left', exists_and_left, false_or, or_false, true_or, false_and, and_false, true_and, and_true, if_true, if_false, Bool.not_true, Bool.not_false, Bool.false_eq_true, Bool.true_eq_false, Bool.false_xor, Bool.true_xor, decide_eq_true_eq, decide_eq_false_iff_not, Nat.reduceAdd, Nat.reduceSub, Nat.reduceLT, Nat.reduceLeDiff, Nat.zero_add, Nat.zero_lt_succ, Nat.reduceEqDiff, Int.reduceEq, Int.reduceNeg, reduceIte, eq_self_iff_true, ne_eq, not_true_eq_false, not_false_eq_true, Int.reduceAdd, Int.reduceSub, Int.reduceLT, Int.reduceLE, Int.reducePow, Int.reduceToNat, Int.toNat_natCast])

def azS : Str := "abcdefghijklmnopqrstuvwxyz"
def az : List Nat := azS.cps.toList
def wordB (x : Str) : Bool := decide (1 ≤ x.length ∧ x.length ≤ 4) && x.cps.toList.all fun c => decide (c ∈ az)
def wordD : Dat → Bool
  | .str x => wordB x
  | _ => false
def six : Dat → Bool
  | .dk _ => false
  | .dt _ => false
  | .ob _ _ => false
  | .strm => false
  | _ => true
theorem is_word_ok {d : Dat} {S : Sm} (h : six d = true) : Ok (p_is_word [d] S) fun r S' => S' = S ∧ r = .bl (wordD d) := by
  unfold p_is_word m_is_word
  cases d with
  | str x =>
    walk_at "wp"
    refine ite_all (fun h1 => ite_all (fun h2 => ?_) fun h2 => ?_) fun h1 => ?_
    · rw [Bool.not_eq_true', decide_eq_false_iff_not] at h2
      show false = wordB x
      have : ¬ (1 ≤ x.length ∧ x.length ≤ 4) := by omega
      unfold wordB
      rw [decide_eq_false this, Bool.false_and]
    · rw [signs_sg]
      refine ok_lcM (fun c => Dat.str (sg c)) (fun c => Dat.bl (decide (c ∈ az))) _ (fun c hc => ?_) ?_
      · walk_at "wp"
        unfold sg
        walk_at "wp"
        rfl
      · rw [show (x.cps.toList.map fun c => Dat.bl (decide (c ∈ az))) = (x.cps.toList.map fun c => decide (c ∈ az)).map .bl from by rw [List.map_map]; rfl]
        walk_at "wp"
        show _ = wordB x
        have h3 : x.length ≤ 4 := by
          rw [Bool.not_eq_true', decide_eq_false_iff_not] at h2
          omega
        unfold wordB
        rw [decide_eq_true (show 1 ≤ x.length ∧ x.length ≤ 4 from ⟨by omega, h3⟩), Bool.true_and, List.all_map]
        rfl
    · show false = wordB x
      have : ¬ (1 ≤ x.length ∧ x.length ≤ 4) := by omega
      unfold wordB
      rw [decide_eq_false this, Bool.false_and]
  | dk _ => cases h
  | dt _ => cases h
  | ob _ _ => cases h
  | strm => cases h
  | _ => walk_at "wp"; rfl
def intD (lo hi : Int) : Dat → Bool
  | .int i => decide (lo ≤ i ∧ i ≤ hi)
  | _ => false
def plD : Dat → Bool
  | .int _ => true
  | _ => false
theorem is_plain_ok {d : Dat} {S : Sm} (h : six d = true) : Ok (p_is_plain_integer [d] S) fun r S' => S' = S ∧ r = .bl (plD d) := by
  unfold p_is_plain_integer m_is_plain_integer
  cases d with
  | dk _ => cases h
  | dt _ => cases h
  | ob _ _ => cases h
  | strm => cases h
  | _ => walk_at "wp"; rfl
theorem is_integer_ok {d : Dat} {lo hi : Int} {S : Sm} (h : six d = true) : Ok (p_is_integer [d, .int lo, .int hi] S) fun r S' => S' = S ∧ r = .bl (intD lo hi d) := by
  unfold p_is_integer m_is_integer
  walk_at "wp"
  refine (is_plain_ok h).mono ?_
  rintro r S' ⟨rfl, rfl⟩
  cases d with
  | dk _ => cases h
  | dt _ => cases h
  | ob _ _ => cases h
  | strm => cases h
  | int i =>
    simp only [plD]
    walk_at "wp"
    unfold intD
    refine ite_all (fun h1 => ?_) fun h1 => ?_
    · exact decide_eq_decide.mpr ⟨fun h => ⟨h1, h⟩, fun h => h.2⟩
    · exact (decide_eq_false fun h => h1 h.1).symm
  | _ => simp only [plD]; walk_at "wp"; rfl
def entD : Dat → Bool
  | .tup [a, b] => wordD a && intD 1 9 b
  | _ => false
def s2 (d : Dat) : Bool := six d && match d with
  | .tup ds => ds.all six
  | _ => true
def s3 (d : Dat) : Bool := six d && match d with
  | .tup ds => ds.all s2
  | _ => true
theorem at0 {α : Type} {x : α} {xs : List α} : atI (x :: xs) 0 = some x := atI_nat (j := 0) rfl
theorem at1 {α : Type} {x y : α} {xs : List α} : atI (x :: y :: xs) 1 = some y := atI_nat (j := 1) rfl
theorem is_entry_ok {d : Dat} {S : Sm} (h : s2 d = true) : Ok (p_is_entry [d] S) fun r S' => S' = S ∧ r = .bl (entD d) := by
  unfold p_is_entry m_is_entry
  cases d with
  | dk _ => cases h
  | dt _ => cases h
  | ob _ _ => cases h
  | strm => cases h
  | tup ds =>
    have hs : ∀ x ∈ ds, six x = true := List.all_eq_true.mp h
    match ds, hs with
    | [a, b], hs =>
      walk_at "wp"
      rw [at0]
      walk_at "wp"
      refine (is_word_ok (hs a List.mem_cons_self)).mono ?_
      rintro r S' ⟨rfl, rfl⟩
      rw [at1]
      walk_at "wp"
      refine ite_all (fun h1 => ?_) fun h1 => ?_
      · refine (is_integer_ok (hs b (List.mem_cons_of_mem _ List.mem_cons_self))).mono ?_
        rintro r S' ⟨rfl, rfl⟩
        refine ⟨rfl, ?_⟩
        show _ = Dat.bl (wordD a && intD 1 9 b)
        rw [h1, Bool.true_and]
      · show false = (wordD a && intD 1 9 b)
        rw [Bool.eq_false_iff.mpr h1]
        rfl
    | [], _ => walk_at "wp"; rfl
    | [_], _ => walk_at "wp"; rfl
    | _ :: _ :: _ :: _, _ =>
      walk_at "wp"
      refine ite_all (fun _ => rfl) fun h1 => ?_
      rw [Bool.not_eq_true', decide_eq_false_iff_not] at h1
      exact (h1 (by omega)).elim
  | _ => walk_at "wp"; rfl
/-- a word list of the document -/
structure WL (ws : List (Str × Int)) : Prop where
  len : 1 ≤ ws.length ∧ ws.length ≤ 8
  ent : ∀ w ∈ ws, wordB w.1 = true ∧ 1 ≤ w.2 ∧ w.2 ≤ 9
  srt : (ws.map (·.1)).Pairwise fun a b => a.cps.toList < b.cps.toList
  has : ∀ w ∈ ws, ∀ c ∈ w.1.cps.toList, sg c ∈ ws.map (·.1)
def listD (ws : List (Str × Int)) : Dat := .tup (ws.map PD.pairD)
theorem ent_pairs : ∀ {ds : List Dat}, ds.all entD = true → ∃ ws : List (Str × Int), ds = ws.map PD.pairD ∧ ∀ w ∈ ws, wordB w.1 = true ∧ 1 ≤ w.2 ∧ w.2 ≤ 9
  | [], _ => ⟨[], rfl, fun w h => by cases h⟩
  | d :: ds, h => by
    rw [List.all_cons, Bool.and_eq_true] at h
    obtain ⟨ws, rfl, hw⟩ := ent_pairs h.2
    have : ∃ (x : Str) (i : Int), d = .tup [.str x, .int i] ∧ wordB x = true ∧ 1 ≤ i ∧ i ≤ 9 := by
      have h1 := h.1
      unfold entD at h1
      split at h1
      · rename_i a b
        rw [Bool.and_eq_true] at h1
        cases a with
        | str x => cases b with
          | int i => exact ⟨x, i, rfl, h1.1, of_decide_eq_true h1.2⟩
          | _ => cases h1.2
        | _ => cases h1.1
      · cases h1
    obtain ⟨x, i, rfl, h1, h2⟩ := this
    exact ⟨(x, i) :: ws, rfl, fun w h => by
      rcases List.mem_cons.mp h with rfl | h
      · exact ⟨h1, h2⟩
      · exact hw w h⟩
theorem az_small : ∀ c ∈ az, c < 1114112 := by decide
theorem wordB_sm {x : Str} (h : wordB x = true) : SmS x := fun c hc => by
  unfold wordB at h
  rw [Bool.and_eq_true, List.all_eq_true] at h
  exact az_small c (of_decide_eq_true (h.2 c hc))
theorem flat_len {k : Nat} : ∀ {xs : List Str}, (∀ x ∈ xs, x.length ≤ k) → (xs.flatMap (·.cps.toList)).length ≤ k * xs.length
  | [], _ => Nat.zero_le _
  | x :: xs, h => by
    have ih := flat_len fun y hy => h y (List.mem_cons_of_mem _ hy)
    have := h x List.mem_cons_self
    rw [len_cps] at this
    rw [List.flatMap_cons, List.length_append, List.length_cons, Nat.mul_succ]
    omega
theorem wordB_iff {x : Str} : wordB x = true ↔ (1 ≤ x.length ∧ x.length ≤ 4) ∧ ∀ c ∈ x.cps.toList, c ∈ az := by
  unfold wordB
  rw [Bool.and_eq_true, List.all_eq_true, decide_eq_true_eq]
  exact ⟨fun h => ⟨h.1, fun c hc => of_decide_eq_true (h.2 c hc)⟩, fun h => ⟨h.1, fun c hc => decide_eq_true (h.2 c hc)⟩⟩
theorem is_list_ok {d : Dat} {S : Sm} (h : s3 d = true) : Ok (p_is_list [d] S) fun r S' => S' = S ∧ ∃ b, r = .bl b ∧ (b = true ↔ ∃ ws, d = listD ws ∧ WL ws) := by
  unfold p_is_list m_is_list
  have no : ∀ {d : Dat}, (∀ ds, d ≠ .tup ds) → (false = true ↔ ∃ ws, d = listD ws ∧ WL ws) := fun h => ⟨(fun e => by cases e), fun ⟨ws, e, _⟩ => (h _ e).elim⟩
  cases d with
  | dk _ => cases h
  | dt _ => cases h
  | ob _ _ => cases h
  | strm => cases h
  | tup ds =>
    have hs : ∀ x ∈ ds, s2 x = true := List.all_eq_true.mp h
    have lenof : ∀ ws, Dat.tup ds = listD ws → ds.length = ws.length := fun ws e => by
      cases e
      rw [List.length_map]
    walk_at "wp"
    refine ite_all (fun h1 => ite_all (fun h2 => ?_) fun h2 => ?_) fun h1 => ?_
    · rw [Bool.not_eq_true', decide_eq_false_iff_not] at h2
      exact ⟨False.elim, fun ⟨ws, e, w⟩ => h2 (by rw [lenof ws e]; have := w.len.2; omega)⟩
    · have h3 : ds.length ≤ 8 := by
        rw [Bool.not_eq_true', decide_eq_false_iff_not] at h2
        omega
      have hid : ∀ f : Dat → Dat, ds.map f = (ds.map id).map f := fun f => by rw [List.map_id]
      rw [show ds = ds.map id from (List.map_id ds).symm]
      refine ok_lcM id (fun d => Dat.bl (entD d)) ds (fun a ha => ?_) ?_
      · walk_at "wp"
        refine (is_entry_ok (hs a ha)).mono ?_
        rintro r S' ⟨rfl, rfl⟩
        exact ⟨rfl, rfl⟩
      rw [show (ds.map fun d => Dat.bl (entD d)) = (ds.map entD).map .bl from by rw [List.map_map]; rfl, List.map_id]
      walk_at "wp"
      refine ite_all (fun h4 => ⟨False.elim, fun ⟨ws, e, w⟩ => ?_⟩) fun h4 => ?_
      · rw [Bool.not_eq_true', Bool.eq_false_iff] at h4
        refine h4 ?_
        rw [List.all_map, List.all_eq_true]
        cases e
        intro d hd
        obtain ⟨p, hp, rfl⟩ := List.mem_map.mp hd
        show (wordB p.1 && decide (1 ≤ p.2 ∧ p.2 ≤ 9)) = true
        rw [(w.ent p hp).1, decide_eq_true (w.ent p hp).2]; rfl
      · have h5 : ds.all entD = true := by
          rw [Bool.not_eq_true', Bool.not_eq_false] at h4
          rw [List.all_map] at h4
          exact h4
        obtain ⟨ws, rfl, hw⟩ := ent_pairs h5
        rw [List.length_map] at h1 h3
        have inj : ∀ ws', Dat.tup (ws.map PD.pairD) = listD ws' → ws' = ws := fun ws' e => by
          have e2 : ws.map PD.pairD = ws'.map PD.pairD := Dat.tup.inj e
          have e3 := (toPairs_map ws).symm.trans ((congrArg toPairs e2).trans (toPairs_map ws'))
          exact (Option.some.inj e3).symm
        refine ok_lcM PD.pairD (fun p => Dat.str p.1) ws (fun a ha => ?_) ?_
        · walk_at "wp"
          rw [at0]
          walk_at "wp"
        rw [show (ws.map fun p => Dat.str p.1) = (ws.map (·.1)).map .str from by rw [List.map_map]; rfl]
        refine ⟨ws.map (·.1), toStrs_map _, by rw [List.length_map]; omega, ?_⟩
        have sm : ∀ x ∈ ws.map (·.1), SmS x := fun x hx => by
          obtain ⟨p, hp, rfl⟩ := List.mem_map.mp hx
          exact wordB_sm (hw p hp).1
        have sm2 : ∀ x ∈ sortS (metS (ws.map (·.1))), SmS x := fun x hx => by
          have := (List.mergeSort_perm _ _).mem_iff.mp hx
          rcases mem_metS _ [] x this with h | h
          · cases h
          · exact sm x h
        rw [gEq_strs sm sm2]
        walk_at "wp"
        refine ite_all (fun h6 => ⟨False.elim, fun ⟨ws', e, w⟩ => ?_⟩) fun h6 => ?_
        · rw [inj ws' e] at w
          rw [Bool.not_eq_true', decide_eq_false_iff_not] at h6
          exact h6 (sortSet_id w.srt).symm
        · have h7 : (ws.map (·.1)).Pairwise fun a b => a.cps.toList < b.cps.toList := by
            rw [Bool.not_eq_true', decide_eq_false_iff_not] at h6
            exact sortSet_iff.mp (Classical.not_not.mp h6).symm
          refine ok_lc2M Dat.str (fun x : Str => x.cps.toList) (fun c => Dat.str (sg c)) (fun c => Dat.bl (decide (sg c ∈ ws.map (·.1)))) (ws.map (·.1)) (fun a ha => ?_) ?_
          · walk_at "wp"
            exact ⟨signs_sg a, fun _ _ => trivial⟩
          · have l1 : ((ws.map (·.1)).flatMap fun x : Str => x.cps.toList).length ≤ 4 * (ws.map (·.1)).length := flat_len fun x hx => by
              obtain ⟨p, hp, rfl⟩ := List.mem_map.mp hx
              exact (wordB_iff.mp (hw p hp).1).1.2
            rw [List.length_map] at l1
            refine ⟨by rw [List.length_map]; omega, ?_⟩
            rw [show (((ws.map (·.1)).flatMap fun x : Str => x.cps.toList).map fun c => Dat.bl (decide (sg c ∈ ws.map (·.1)))) = (((ws.map (·.1)).flatMap fun x : Str => x.cps.toList).map fun c => decide (sg c ∈ ws.map (·.1))).map .bl from by rw [List.map_map]; rfl]
            walk_at "wp"
            rw [all_dec]
            rw [decide_eq_true_eq]
            constructor
            · intro h
              refine ⟨ws, rfl, ⟨by omega, by omega⟩, hw, h7, fun w hw c hc => h c (List.mem_flatMap.mpr ⟨w.1, List.mem_map_of_mem hw, hc⟩)⟩
            · rintro ⟨ws', e, w⟩ c hc
              rw [inj ws' e] at w
              obtain ⟨x, hx, hc⟩ := List.mem_flatMap.mp hc
              obtain ⟨p, hp, rfl⟩ := List.mem_map.mp hx
              exact w.has p hp c hc
    · exact ⟨False.elim, fun ⟨ws, e, w⟩ => h1 (by rw [lenof ws e]; have := w.len.1; omega)⟩
  | _ => walk_at "wp"; exact ⟨False.elim, fun ⟨ws, e, _⟩ => by cases e⟩

end LX

set_option maxHeartbeats 1000000
namespace LX
open PySem PySem.Spec PyProof.Rows L2 PD
local macro_rules | `(tactic| walk_at "wp") => `(tactic| simp (config := { maxSteps := 3000000 }) only [↓PD.w_callB1, ↓PD.w_fld, ↓PD.w_makeN, ↓PD.w_mth, ↓PD.w_mthS, ↓PD.w_mthD, ↓PD.w_mthB, ↓PD.w_mthX, ↓PD.w_putSame, ↓PD.w_put, ↓PD.w_put2, ↓PD.seqF_nx, ↓PD.w_seqF, ↓PD.w_fin, ↓PD.w_end, ↓PD.w_runO, ↓PD.w_makeX, ↓PD.w_runI, ↓PD.exR_ex, ↓PD.exF_ex, ↓PD.w_callO, ↓PD.coK_ok, ↓PD.coK_ex, ↓PD.w_forX, ↓PD.loopX_nx, ↓PD.loopX_ct, ↓PD.loopX_bk, ↓PD.loopX_rt, ↓PD.loopX_ex, ↓PD.w_inX, ↓PD.w_lift, ↓PD.w_seqX, ↓PD.w_ifX, ↓PD.w_callX, ↓PD.w_raise, ↓PD.w_runX, ↓PD.w_try, ↓PD.seqX_nx, ↓PD.seqX_rt, ↓PD.seqX_bk, ↓PD.seqX_ct, ↓PD.seqX_ex, ↓PD.cxK_ok, ↓PD.cxK_ex, ↓PD.outX_rt, ↓PD.outX_nx, ↓PD.outX_ex, ↓PD.tryK_fl, ↓PD.tryK_ex, ↓PD.w_enumL, ↓PD.w_inG, ↓PD.w_disp, ↓PD.w_zip, ↓PD.w_mL, ↓PD.w_keys, ↓PD.w_star, ↓PD.w_enum, ↓PD.w_var, ↓PD.w_varB, ↓PD.w_c, ↓PD.w_2, ↓PD.w_nil, ↓PD.w_cons, ↓PD.w_tup, ↓PD.w_lst, ↓PD.w_call, ↓PD.w_callB, ↓PD.w_b, ↓PD.w_nop, ↓PD.w_p, ↓PD.w_sl, ↓PD.w_rev, ↓PD.w_m, ↓PD.w_is, ↓PD.w_test, ↓PD.w_tru, ↓PD.w_notT, ↓PD.w_andT, ↓PD.w_orT, ↓PD.w_andV, ↓PD.w_notV, ↓PD.w_ifE, ↓PD.w_chain, ↓PD.w_neg, ↓PD.w_it, ↓PD.w_rng1, ↓PD.w_rng2E, ↓PD.w_lc, ↓PD.w_lc2, ↓PD.w_sortSet, ↓PD.w_sortLen, ↓PD.w_thenF, ↓PD.w_dnew, ↓PD.w_dput, ↓PD.w_aug, ↓PD.w_putI, ↓PD.w_augI, ↓PD.w_revR, ↓PD.thenK_nx, ↓PD.w_bNm, ↓PD.w_bTup, ↓PD.w_bTupP, ↓PD.w_bTupN, ↓PD.w_bCons, ↓PD.w_bNil, ↓PD.nOw_no, ↓PD.nOw_fz, ↓PD.w_yes, ↓PD.w_seq, ↓PD.w_next, ↓PD.w_bk, ↓PD.w_ct, ↓PD.w_no, ↓PD.w_if, ↓PD.w_set, ↓PD.w_setN, ↓PD.w_asg, ↓PD.w_ret, ↓PD.w_retV, ↓PD.w_retN, ↓PD.w_drop, ↓PD.w_app, ↓PD.w_ext, ↓PD.w_for, ↓PD.w_run, ↓PD.w_str, ↓PD.w_strP, ↓PD.seqK_nx, ↓PD.seqK_rt, ↓PD.seqK_bk, ↓PD.seqK_ct, ↓PD.outP_rt, ↓PD.outP_nx, ↓PD.loopK_nx, ↓PD.loopK_ct, ↓PD.loopK_bk, ↓PD.loopK_rt, ↓PD.isB_bl, ↓PD.isI_int, ↓PD.isS_str, ↓PD.pu_some, ↓PD.pu_none, ↓PD.ok_some, ↓PD.ok_none, PD.gInG_str, PD.gInX_str, PD.sdF_1, PD.sdT_1, PD.gCount_ints, PD.gMinA_lst, PD.gMaxA_lst, PD.seqD_lst, PD.seqD_tup, PD.gMul_int, PD.gMul_str, PD.gI_, PD.gI0_, PD.gAdd_int, PD.gAdd_str, PD.gAdd_tup, PD.gLt_int, PD.gLe_int, PD.gGt_int, PD.gGe_int, PD.gLen_str, PD.gLen_lst, PD.gLen_tup, PD.gAbs_, PD.gIntOf_int, PD.gIx_lst, PD.gIx_tup, PD.gIx_str, PD.gIxA_lst, PD.gIxA_tup, PD.gIxA_str, PD.gIxA_dk, PD.gIxA_dkI, PD.gInA_sign, PD.gInA_strs, PD.gNotInA_strs, PD.gInA_dk, PD.gLenA_str, PD.gLenA_lst, PD.gLenA_tup, PD.gLenA_dk, PD.gIntOf_bl, PD.gSortD_lst, PD.gTupB_lst, PD.gTupB_tup, PD.gTupB_str, PD.gGeA_int, PD.gGeA_ints, PD.gCat_, PD.gRepA_, PD.gStarts_1, PD.gStarts_3, PD.gEnds_1, PD.gEnds_4, PD.dKey_str, PD.dKey_int, PD.gSl_lst, PD.gSl_tup, PD.gSl_str, PD.gRev_lst, PD.gRev_tup, PD.gRev_str, PD.gLstA_lst, PD.gLstA_tup, PD.gLstA_str, PD.gTupA_lst, PD.gTupA_tup, PD.gAll_, PD.gAny_, PD.gSum_, PD.gSortA_strs, PD.gSortA_pairs, PD.gJoin_lst, PD.gEq_int, PD.gEq_bl, PD.gIs_non, PD.gIn_sign, PD.gIn_strs, PD.gNotIn_strs, PD.items_lst, PD.items_tup, PD.items_str, PD.rng1_, PD.rng2_, PD.dTru_bl, PD.dTru_int, PD.dTru_non, PD.dTru_tup, PD.dTru_lst, PD.dTru_str, PD.pairD, PD.isTy_int_non, PD.isTy_int_bl, PD.isTy_int_int, PD.isTy_int_str, PD.isTy_int_tup, PD.isTy_int_lst, PD.isTy_bool_non, PD.isTy_bool_bl, PD.isTy_bool_int, PD.isTy_bool_str, PD.isTy_bool_tup, PD.isTy_bool_lst, PD.isTy_str_non, PD.isTy_str_bl, PD.isTy_str_int, PD.isTy_str_str, PD.isTy_str_tup, PD.isTy_str_lst, PD.isTy_tuple_non, PD.isTy_tuple_bl, PD.isTy_tuple_int, PD.isTy_tuple_str, PD.isTy_tuple_tup, PD.isTy_tuple_lst, PD.isTy_list_non, PD.isTy_list_bl, PD.isTy_list_int, PD.isTy_list_str, PD.isTy_list_tup, PD.isTy_list_lst, PD.wipeE, PD.initE, List.length_cons, List.length_nil, List.length_map, List.map_cons, List.map_nil, List.getElem?_cons_zero, List.getElem?_cons_succ, List.getElem?_nil, List.set_cons_zero, List.set_cons_succ, List.replicate_succ, List.replicate_zero, List.cons_append, List.nil_append, Option.some.injEq, Option.bind_some, Option.map_some, Slo.fz.injEq, Slo.ow.injEq, Dat.bl.injEq, Dat.int.injEq, Dat.str.injEq, Dat.tup.injEq, Dat.lst.injEq, Dat.dk.injEq, List.cons.injEq, reduceCtorEq, exists_eq_left, exists_eq_left', exists_and_left, false_or, or_false, true_or, false_and, and_false, true_and, and_true, if_true, if_false, Bool.not_true, Bool.not_false, Bool.false_eq_true, Bool.true_eq_false, Bool.false_xor, Bool.true_xor, decide_eq_true_eq, decide_eq_false_iff_not, Nat.reduceAdd, Nat.reduceSub, Nat.reduceLT, Nat.reduceLeDiff, Nat.zero_add, Nat.zero_lt_succ, Nat.reduceEqDiff, Int.reduceEq, Int.reduceNeg, reduceIte, eq_self_iff_true, ne_eq, not_true_eq_false, not_false_eq_true, Int.reduceAdd, Int.reduceSub, Int.reduceLT, Int.reduceLE, Int.reducePow, Int.reduceToNat, Int.toNat_natCast])

theorem items_listD {ws : List (Str × Int)} {Q : List Dat → Prop} : Pu (itemsD (listD ws)) Q ↔ Q (ws.map PD.pairD) := pu_some
theorem gIxA_pair0 {w : Str × Int} {Q : Dat → Prop} : Pu (gIxA (PD.pairD w) (.int 0)) Q ↔ Q (.str w.1) := by
  show Pu (gIxA (.tup [.str w.1, .int w.2]) (.int 0)) Q ↔ _
  rw [gIxA_tup, at0, pu_some]
theorem gIxA_pair1 {w : Str × Int} {Q : Dat → Prop} : Pu (gIxA (PD.pairD w) (.int 1)) Q ↔ Q (.int w.2) := by
  show Pu (gIxA (.tup [.str w.1, .int w.2]) (.int 1)) Q ↔ _
  rw [gIxA_tup, at1, pu_some]
theorem gIxA_first {w : Str × Int} {r : List (Str × Int)} {Q : Dat → Prop} : Pu (gIxA (listD (w :: r)) (.int 0)) Q ↔ Q (PD.pairD w) := by
  show Pu (gIxA (.tup (PD.pairD w :: r.map PD.pairD)) (.int 0)) Q ↔ _
  rw [gIxA_tup, at0, pu_some]
theorem gIxA_listD {ws : List (Str × Int)} {i : Nat} (h : i < ws.length) {Q : Dat → Prop} : Pu (gIxA (listD ws) (.int i)) Q ↔ Q (PD.pairD ws[i]) := by
  unfold listD
  rw [gIxA_tup, atI_nat (j := i) (v := PD.pairD ws[i]) (by rw [List.getElem?_map, List.getElem?_eq_getElem h]; rfl), pu_some]
theorem rng2_fits {i j : Int} (h0 : 0 ≤ i) (h1 : i ≤ 1000) (h2 : 0 ≤ j) (h3 : j ≤ 1000) : ((rng62 i && rng62 j) && decide ((j - i).toNat ≤ 100000)) = true := by
  unfold rng62
  simp only [Bool.and_eq_true, decide_eq_true_eq]
  omega
theorem s3_listD (ws : List (Str × Int)) : s3 (listD ws) = true := by
  show (true && (ws.map PD.pairD).all s2) = true
  rw [Bool.true_and, List.all_eq_true]
  intro d hd
  obtain ⟨p, _, rfl⟩ := List.mem_map.mp hd
  rfl
theorem is_list_yes {ws : List (Str × Int)} {S : Sm} (h : WL ws) : Ok (p_is_list [listD ws] S) fun r S' => S' = S ∧ r = .bl true := by
  refine (is_list_ok (s3_listD ws)).mono ?_
  rintro r S' ⟨rfl, b, rfl, hb⟩
  rw [hb.mpr ⟨ws, rfl, h⟩]
  exact ⟨rfl, rfl⟩
theorem check_list_ok {ws : List (Str × Int)} {S : Sm} (h : WL ws) : Ok (p_check_list [listD ws] S) fun r S' => S' = S ∧ r = .non := by
  unfold p_check_list m_check_list
  walk_at "wp"
  refine (is_list_yes h).mono ?_
  rintro r S' ⟨rfl, rfl⟩
  walk_at "wp"
def one (w : Str × Int) : Bool := decide ((w.1.length : Int) = 1)
/-- the letters of a word list, as texts; as signs -/
def lets (ws : List (Str × Int)) : List Nat := (ws.filter one).flatMap fun w => w.1.cps.toList
theorem lets_len {ws : List (Str × Int)} : (lets ws).length = (ws.filter one).length := by
  unfold lets
  have : ∀ xs : List (Str × Int), (∀ x ∈ xs, one x = true) → (xs.flatMap fun w => w.1.cps.toList).length = xs.length := by
    intro xs
    induction xs with
    | nil => intro _; rfl
    | cons x xs ih =>
      intro h
      have h1 := of_decide_eq_true (h x List.mem_cons_self)
      rw [len_cps] at h1
      rw [List.flatMap_cons, List.length_append, ih fun y hy => h y (List.mem_cons_of_mem _ hy), List.length_cons]
      omega
  exact this _ fun x hx => (List.mem_filter.mp hx).2
theorem lets_few {ws : List (Str × Int)} : (lets ws).length ≤ ws.length := by
  rw [lets_len]; exact List.length_filter_le _ _
theorem find_letters_ok {ws : List (Str × Int)} {S : Sm} (h : ws.length ≤ 1000) : Ok (p_find_letters [listD ws] S) fun r S' => S' = S ∧ r = .str (strOf (lets ws)) := by
  unfold p_find_letters m_find_letters listD
  walk_at "wp"
  refine ok_lcP PD.pairD one (fun w => Dat.str w.1) ws (fun a ha => ?_) ?_
  · walk_at "wp"
    exact ⟨rfl, fun _ => trivial⟩
  · rw [show ((ws.filter one).map fun w => Dat.str w.1) = ((ws.filter one).map (·.1)).map .str from by rw [List.map_map]; rfl]
    have e : ((ws.filter one).map (·.1)).flatMap (fun x : Str => x.cps.toList) = lets ws := by
      unfold lets
      rw [List.flatMap_map]
    rw [gJoin_E (by rw [e]; have := lets_few (ws := ws); omega), e]
    exact ⟨rfl, rfl⟩
def fitB (ws : List (Str × Int)) : Dat → Bool
  | .str x => decide (x.length ≤ 30) && x.cps.toList.all fun c => decide (c ∈ lets ws)
  | _ => false
/-- what has_letters says, of all data -/
def hasB (ws : List (Str × Int)) : Dat → Bool
  | .str x => x.cps.toList.all fun c => decide (c ∈ lets ws)
  | _ => false
theorem has_letters_ok {ws : List (Str × Int)} {d : Dat} {S : Sm} (h : ws.length ≤ 1000) (hd : six d = true) : Ok (p_has_letters [listD ws, d] S) fun r S' => S' = S ∧ r = .bl (hasB ws d) := by
  unfold p_has_letters m_has_letters
  cases d with
  | dk _ => cases hd
  | dt _ => cases hd
  | ob _ _ => cases hd
  | strm => cases hd
  | str x =>
    walk_at "wp"
    refine (find_letters_ok h).mono ?_
    rintro r S' ⟨rfl, rfl⟩
    try walk_at "wp"
    rw [signs_sg]
    refine ok_lcM (fun c => Dat.str (sg c)) (fun c => Dat.bl (decide (c ∈ lets ws))) _ (fun c hc => ?_) ?_
    · walk_at "wp"
      unfold sg
      try walk_at "wp"
      rfl
    · rw [show (x.cps.toList.map fun c => Dat.bl (decide (c ∈ lets ws))) = (x.cps.toList.map fun c => decide (c ∈ lets ws)).map .bl from by rw [List.map_map]; rfl]
      walk_at "wp"
      show _ = _
      unfold hasB
      rw [List.all_map]
      rfl
  | _ => walk_at "wp"; rfl
theorem fits_ok {ws : List (Str × Int)} {d : Dat} {S : Sm} (h : ws.length ≤ 1000) (hd : six d = true) : Ok (p_fits [listD ws, d] S) fun r S' => S' = S ∧ r = .bl (fitB ws d) := by
  unfold p_fits m_fits
  walk_at "wp"
  refine (has_letters_ok h hd).mono ?_
  rintro r S' ⟨rfl, rfl⟩
  rw [isB_bl]
  cases d with
  | str x =>
    refine ite_all (fun h1 => ?_) fun h1 => ?_
    · walk_at "wp"
      show _ = (_ && _)
      have h1 : (x.cps.toList.all fun c => decide (c ∈ lets ws)) = true := h1
      rw [h1, Bool.and_true]
      exact decide_eq_decide.mpr (by omega)
    · have h1 : ¬ (x.cps.toList.all fun c => decide (c ∈ lets ws)) = true := h1
      refine ⟨rfl, ?_⟩
      show false = (_ && _)
      rw [Bool.not_eq_true _ |>.mp h1, Bool.and_false]
  | _ => exact ⟨rfl, rfl⟩
/-! ### == word by word -/
def okE : Nat → Dat → Prop
  | 0, _ => False
  | k + 1, d => match d with
    | .str x => SmS x
    | .tup ds => ds.length ≤ 1000 ∧ ∀ e ∈ ds, okE k e
    | .lst ds => ds.length ≤ 1000 ∧ ∀ e ∈ ds, okE k e
    | .dk _ => False
    | .dt _ => False
    | .ob _ _ => False
    | .strm => False
    | _ => True
theorem plain_ok {d : Dat} {S : Sm} (h : six d = true) : Ok (p__law_is_integer [d] S) fun r S' => S' = S ∧ r = .bl (plD d) := by
  unfold p__law_is_integer m__law_is_integer
  cases d with
  | dk _ => cases h
  | dt _ => cases h
  | ob _ _ => cases h
  | strm => cases h
  | _ => walk_at "wp"; rfl
theorem all_true (n : Nat) : ((List.range n).map fun _ => true).all id = true := by
  rw [List.all_map, List.all_eq_true]; intro _ _; rfl
theorem rng_fits {n : Nat} (h : n ≤ 1000) : (rng62 (n : Int) && decide ((n : Int).toNat ≤ 100000)) = true := by
  unfold rng62
  rw [Bool.and_eq_true, Bool.and_eq_true]
  exact ⟨⟨decide_eq_true (by omega), decide_eq_true (by omega)⟩, decide_eq_true (by omega)⟩
theorem equal_refl : ∀ (k : Nat) (d : Dat) (S : Sm), okE k d → Ok (p__law_equal k [d, d] S) fun r S' => S' = S ∧ r = .bl true
  | 0, _, _, h => h.elim
  | k + 1, d, S, h => by
    unfold p__law_equal m__law_equal
    cases d with
    | dk _ => exact h.elim
    | dt _ => exact h.elim
    | ob _ _ => exact h.elim
    | strm => exact h.elim
    | non => walk_at "wp"; rfl
    | bl b =>
      walk_at "wp"
      rw [if_neg (fun e => Bool.false_ne_true e : ¬ (Dat.bl b).isNon = true)]
      exact beq_self_eq_true b
    | int i =>
      walk_at "wp"
      rw [if_neg (fun e => Bool.false_ne_true e : ¬ (Dat.int i).isNon = true)]
      refine (plain_ok rfl).mono ?_
      rintro r S' ⟨rfl, rfl⟩
      unfold plD
      walk_at "wp"
    | str x =>
      walk_at "wp"
      rw [if_neg (fun e => Bool.false_ne_true e : ¬ (Dat.str x).isNon = true), gEq_str h h]
      walk_at "wp"
    | tup ds =>
      have ih := fun e he S => equal_refl k e S (h.2 e he)
      walk_at "wp"
      rw [if_neg (fun e => Bool.false_ne_true e : ¬ (Dat.tup ds).isNon = true), if_neg (by decide)]
      refine ⟨rng_fits h.1, ?_⟩
      unfold rngD
      refine ok_lcM (fun i : Nat => Dat.int (0 + i)) (fun _ => Dat.bl true) _ (fun a ha => ?_) ?_
      · walk_at "wp"
        rw [Int.zero_add]
        have ha2 := List.mem_range.mp ha
        refine pu_at (by omega) (pu_at (by omega) ?_)
        exact ih _ (List.getElem_mem _) S
      · rw [show ((List.range ds.length).map fun _ => Dat.bl true) = ((List.range ds.length).map fun _ => true).map .bl from by rw [List.map_map]; rfl]
        walk_at "wp"
        rw [all_true]
    | lst ds =>
      have ih := fun e he S => equal_refl k e S (h.2 e he)
      walk_at "wp"
      rw [if_neg (fun e => Bool.false_ne_true e : ¬ (Dat.lst ds).isNon = true), if_neg (by decide)]
      refine ⟨rng_fits h.1, ?_⟩
      unfold rngD
      refine ok_lcM (fun i : Nat => Dat.int (0 + i)) (fun _ => Dat.bl true) _ (fun a ha => ?_) ?_
      · walk_at "wp"
        rw [Int.zero_add]
        have ha2 := List.mem_range.mp ha
        refine pu_at (by omega) (pu_at (by omega) ?_)
        exact ih _ (List.getElem_mem _) S
      · rw [show ((List.range ds.length).map fun _ => Dat.bl true) = ((List.range ds.length).map fun _ => true).map .bl from by rw [List.map_map]; rfl]
        walk_at "wp"
        rw [all_true]

end LX

set_option maxHeartbeats 1000000
namespace LX
open PySem PySem.Spec PyProof.Rows L2 PD
local macro_rules | `(tactic| walk_at "wp") => `(tactic| simp (config := { maxSteps := 3000000 }) only [↓PD.w_callB1, ↓PD.w_fld, ↓PD.w_makeN, ↓PD.w_mth, ↓PD.w_mthS, ↓PD.w_mthD, ↓PD.w_mthB, ↓PD.w_mthX, ↓PD.w_putSame, ↓PD.w_put, ↓PD.w_put2, ↓PD.seqF_nx, ↓PD.w_seqF, ↓PD.w_fin, ↓PD.w_end, ↓PD.w_runO, ↓PD.w_makeX, ↓PD.w_runI, ↓PD.exR_ex, ↓PD.exF_ex, ↓PD.w_callO, ↓PD.coK_ok, ↓PD.coK_ex, ↓PD.w_forX, ↓PD.loopX_nx, ↓PD.loopX_ct, ↓PD.loopX_bk, ↓PD.loopX_rt, ↓PD.loopX_ex, ↓PD.w_inX, ↓PD.w_lift, ↓PD.w_seqX, ↓PD.w_ifX, ↓PD.w_callX, ↓PD.w_raise, ↓PD.w_runX, ↓PD.w_try, ↓PD.seqX_nx, ↓PD.seqX_rt, ↓PD.seqX_bk, ↓PD.seqX_ct, ↓PD.seqX_ex, ↓PD.cxK_ok, ↓PD.cxK_ex, ↓PD.outX_rt, ↓PD.outX_nx, ↓PD.outX_ex, ↓PD.tryK_fl, ↓PD.tryK_ex, ↓PD.w_enumL, ↓PD.w_inG, ↓PD.w_disp, ↓PD.w_zip, ↓PD.w_mL, ↓PD.w_keys, ↓PD.w_star, ↓PD.w_enum, ↓PD.w_var, ↓PD.w_varB, ↓PD.w_c, ↓PD.w_2, ↓PD.w_nil, ↓PD.w_cons, ↓PD.w_tup, ↓PD.w_lst, ↓PD.w_call, ↓PD.w_callB, ↓PD.w_b, ↓PD.w_nop, ↓PD.w_p, ↓PD.w_sl, ↓PD.w_rev, ↓PD.w_m, ↓PD.w_is, ↓PD.w_test, ↓PD.w_tru, ↓PD.w_notT, ↓PD.w_andT, ↓PD.w_orT, ↓PD.w_andV, ↓PD.w_notV, ↓PD.w_ifE, ↓PD.w_chain, ↓PD.w_neg, ↓PD.w_it, ↓PD.w_rng1, ↓PD.w_rng2E, ↓PD.w_lc, ↓PD.w_lc2, ↓PD.w_sortSet, ↓PD.w_sortLen, ↓PD.w_thenF, ↓PD.w_dnew, ↓PD.w_dput, ↓PD.w_aug, ↓PD.w_putI, ↓PD.w_augI, ↓PD.w_revR, ↓PD.thenK_nx, ↓PD.w_bNm, ↓PD.w_bTup, ↓PD.w_bTupP, ↓PD.w_bTupN, ↓PD.w_bCons, ↓PD.w_bNil, ↓PD.nOw_no, ↓PD.nOw_fz, ↓PD.w_yes, ↓PD.w_seq, ↓PD.w_next, ↓PD.w_bk, ↓PD.w_ct, ↓PD.w_no, ↓PD.w_if, ↓PD.w_set, ↓PD.w_setN, ↓PD.w_asg, ↓PD.w_ret, ↓PD.w_retV, ↓PD.w_retN, ↓PD.w_drop, ↓PD.w_app, ↓PD.w_ext, ↓PD.w_for, ↓PD.w_run, ↓PD.w_str, ↓PD.w_strP, ↓PD.seqK_nx, ↓PD.seqK_rt, ↓PD.seqK_bk, ↓PD.seqK_ct, ↓PD.outP_rt, ↓PD.outP_nx, ↓PD.loopK_nx, ↓PD.loopK_ct, ↓PD.loopK_bk, ↓PD.loopK_rt, ↓PD.isB_bl, ↓PD.isI_int, ↓PD.isS_str, ↓PD.pu_some, ↓PD.pu_none, ↓PD.ok_some, ↓PD.ok_none, PD.gInG_str, PD.gInX_str, PD.sdF_1, PD.sdT_1, PD.gCount_ints, PD.gMinA_lst, PD.gMaxA_lst, PD.seqD_lst, PD.seqD_tup, PD.gMul_int, PD.gMul_str, PD.gI_, PD.gI0_, PD.gAdd_int, PD.gAdd_str, PD.gAdd_tup, PD.gLt_int, PD.gLe_int, PD.gGt_int, PD.gGe_int, PD.gLen_str, PD.gLen_lst, PD.gLen_tup, PD.gAbs_, PD.gIntOf_int, PD.gIx_lst, PD.gIx_tup, PD.gIx_str, PD.gIxA_lst, PD.gIxA_tup, PD.gIxA_str, PD.gIxA_dk, PD.gIxA_dkI, PD.gInA_sign, PD.gInA_strs, PD.gNotInA_strs, PD.gInA_dk, PD.gLenA_str, PD.gLenA_lst, PD.gLenA_tup, PD.gLenA_dk, PD.gIntOf_bl, PD.gSortD_lst, PD.gTupB_lst, PD.gTupB_tup, PD.gTupB_str, PD.gGeA_int, PD.gGeA_ints, PD.gCat_, PD.gRepA_, PD.gStarts_1, PD.gStarts_3, PD.gEnds_1, PD.gEnds_4, PD.dKey_str, PD.dKey_int, PD.gSl_lst, PD.gSl_tup, PD.gSl_str, PD.gRev_lst, PD.gRev_tup, PD.gRev_str, PD.gLstA_lst, PD.gLstA_tup, PD.gLstA_str, PD.gTupA_lst, PD.gTupA_tup, PD.gAll_, PD.gAny_, PD.gSum_, PD.gSortA_strs, PD.gSortA_pairs, PD.gJoin_lst, PD.gEq_int, PD.gEq_bl, PD.gIs_non, PD.gIn_sign, PD.gIn_strs, PD.gNotIn_strs, PD.items_lst, PD.items_tup, PD.items_str, PD.rng1_, PD.rng2_, PD.dTru_bl, PD.dTru_int, PD.dTru_non, PD.dTru_tup, PD.dTru_lst, PD.dTru_str, PD.pairD, PD.isTy_int_non, PD.isTy_int_bl, PD.isTy_int_int, PD.isTy_int_str, PD.isTy_int_tup, PD.isTy_int_lst, PD.isTy_bool_non, PD.isTy_bool_bl, PD.isTy_bool_int, PD.isTy_bool_str, PD.isTy_bool_tup, PD.isTy_bool_lst, PD.isTy_str_non, PD.isTy_str_bl, PD.isTy_str_int, PD.isTy_str_str, PD.isTy_str_tup, PD.isTy_str_lst, PD.isTy_tuple_non, PD.isTy_tuple_bl, PD.isTy_tuple_int, PD.isTy_tuple_str, PD.isTy_tuple_tup, PD.isTy_tuple_lst, PD.isTy_list_non, PD.isTy_list_bl, PD.isTy_list_int, PD.isTy_list_str, PD.isTy_list_tup, PD.isTy_list_lst, PD.wipeE, PD.initE, List.length_cons, List.length_nil, List.length_map, List.map_cons, List.map_nil, List.getElem?_cons_zero, List.getElem?_cons_succ, List.getElem?_nil, List.set_cons_zero, List.set_cons_succ, List.replicate_succ, List.replicate_zero, List.cons_append, List.nil_append, Option.some.injEq, Option.bind_some, Option.map_some, Slo.fz.injEq, Slo.ow.injEq, Dat.bl.injEq, Dat.int.injEq, Dat.str.injEq, Dat.tup.injEq, Dat.lst.injEq, Dat.dk.injEq, List.cons.injEq, reduceCtorEq, exists_eq_left, exists_eq_left', exists_and_left, false_or, or_false, true_or, false_and, and_false, true_and, and_true, if_true, if_false, Bool.not_true, Bool.not_false, Bool.false_eq_true, Bool.true_eq_false, Bool.false_xor, Bool.true_xor, decide_eq_true_eq, decide_eq_false_iff_not, Nat.reduceAdd, Nat.reduceSub, Nat.reduceLT, Nat.reduceLeDiff, Nat.zero_add, Nat.zero_lt_succ, Nat.reduceEqDiff, Int.reduceEq, Int.reduceNeg, reduceIte, eq_self_iff_true, ne_eq, not_true_eq_false, not_false_eq_true, Int.reduceAdd, Int.reduceSub, Int.reduceLT, Int.reduceLE, Int.reducePow, Int.reduceToNat, Int.toNat_natCast])

/-- the drawn letters -/
def Few (ws : List (Str × Int)) : Prop := ∀ w ∈ ws, ∀ c ∈ w.1.cps.toList, c ∈ [97, 98, 99, 109, 113, 122]
theorem few_az : ∀ c ∈ [97, 98, 99, 109, 113, 122], c ∈ az := by decide
theorem one_sg {w : Str × Int} (h : one w = true) : ∃ c, w.1 = sg c := by
  have h1 := of_decide_eq_true h
  rw [len_cps] at h1
  match e : w.1.cps.toList with
  | [] => rw [e] at h1; simp at h1
  | [c] => exact ⟨c, str_ext e⟩
  | _ :: _ :: _ => rw [e] at h1; simp at h1; omega
theorem lets_map : ∀ ws : List (Str × Int), ((ws.filter one).map fun w => Dat.str w.1) = (lets ws).map fun c => Dat.str (sg c) := by
  intro ws
  unfold lets
  have : ∀ xs : List (Str × Int), (∀ x ∈ xs, one x = true) → (xs.map fun w => Dat.str w.1) = (xs.flatMap fun w => w.1.cps.toList).map fun c => Dat.str (sg c) := by
    intro xs
    induction xs with
    | nil => intro _; rfl
    | cons x xs ih =>
      intro h
      obtain ⟨c, hc⟩ := one_sg (h x List.mem_cons_self)
      rw [List.map_cons, List.flatMap_cons, List.map_append, ih fun y hy => h y (List.mem_cons_of_mem _ hy), hc]
      rfl
  exact this _ fun x hx => (List.mem_filter.mp hx).2
theorem mem_lets {ws : List (Str × Int)} {c : Nat} : c ∈ lets ws ↔ sg c ∈ ws.map (·.1) := by
  unfold lets
  rw [List.mem_flatMap]
  constructor
  · rintro ⟨w, hw, hc⟩
    obtain ⟨h1, h2⟩ := List.mem_filter.mp hw
    obtain ⟨c', e⟩ := one_sg h2
    rw [e, sg_cps, List.mem_singleton] at hc
    rw [hc, ← e]
    exact List.mem_map_of_mem h1
  · intro h
    obtain ⟨w, hw, e⟩ := List.mem_map.mp h
    refine ⟨w, List.mem_filter.mpr ⟨hw, ?_⟩, ?_⟩
    · show decide ((w.1.length : Int) = 1) = true
      rw [e]; rfl
    · rw [e]; exact List.mem_singleton_self _
/-- some letter there is -/
theorem WL.letter {ws : List (Str × Int)} (h : WL ws) : ∃ (w : Str × Int) (r : List (Str × Int)) (c : Nat) (cs : List Nat), ws = w :: r ∧ w.1.cps.toList = c :: cs ∧ c ∈ lets ws := by
  cases ws with
  | nil => have := h.len.1; simp at this
  | cons w r =>
    have h1 := (wordB_iff.mp (h.ent w List.mem_cons_self).1).1.1
    rw [len_cps] at h1
    cases e : w.1.cps.toList with
    | nil => rw [e] at h1; simp at h1
    | cons c cs => exact ⟨w, r, c, cs, rfl, e, mem_lets.mpr (h.has w List.mem_cons_self c (by rw [e]; exact List.mem_cons_self))⟩
theorem WL.nd {ws : List (Str × Int)} (h : WL ws) : (ws.map (·.1)).Nodup := nodup_of_lt h.srt
theorem WL.srt2 {ws : List (Str × Int)} (h : WL ws) : ws.Pairwise fun a b => a.1.cps.toList < b.1.cps.toList := by
  have k := h.srt
  rw [List.pairwise_map] at k
  exact k
theorem WL.le {ws : List (Str × Int)} (h : WL ws) : ws.length ≤ 1000 := by have := h.len.2; omega
theorem WL.one {ws : List (Str × Int)} (h : WL ws) {w : Str × Int} (hw : w ∈ ws) : 1 ≤ w.1.length ∧ w.1.length ≤ 4 := (wordB_iff.mp (h.ent w hw).1).1
theorem lets_az {ws : List (Str × Int)} (h : WL ws) {c : Nat} (hc : c ∈ lets ws) : c ∈ az := by
  obtain ⟨w, hw, e⟩ := List.mem_map.mp (mem_lets.mp hc)
  exact (wordB_iff.mp (h.ent w hw).1).2 c (by rw [e]; exact List.mem_singleton_self _)

end LX

set_option maxHeartbeats 1000000
namespace LX
open PySem PySem.Spec PyProof.Rows L2 PD
local macro_rules | `(tactic| walk_at "wp") => `(tactic| simp (config := { maxSteps := 3000000 }) only [↓PD.w_callB1, ↓PD.w_fld, ↓PD.w_makeN, ↓PD.w_mth, ↓PD.w_mthS, ↓PD.w_mthD, ↓PD.w_mthB, ↓PD.w_mthX, ↓PD.w_putSame, ↓PD.w_put, ↓PD.w_put2, ↓PD.seqF_nx, ↓PD.w_seqF, ↓PD.w_fin, ↓PD.w_end, ↓PD.w_runO, ↓PD.w_makeX, ↓PD.w_runI, ↓PD.exR_ex, ↓PD.exF_ex, ↓PD.w_callO, ↓PD.coK_ok, ↓PD.coK_ex, ↓PD.w_forX, ↓PD.loopX_nx, ↓PD.loopX_ct, ↓PD.loopX_bk, ↓PD.loopX_rt, ↓PD.loopX_ex, ↓PD.w_inX, ↓PD.w_lift, ↓PD.w_seqX, ↓PD.w_ifX, ↓PD.w_callX, ↓PD.w_raise, ↓PD.w_runX, ↓PD.w_try, ↓PD.seqX_nx, ↓PD.seqX_rt, ↓PD.seqX_bk, ↓PD.seqX_ct, ↓PD.seqX_ex, ↓PD.cxK_ok, ↓PD.cxK_ex, ↓PD.outX_rt, ↓PD.outX_nx, ↓PD.outX_ex, ↓PD.tryK_fl, ↓PD.tryK_ex, ↓PD.w_enumL, ↓PD.w_inG, ↓PD.w_disp, ↓PD.w_zip, ↓PD.w_mL, ↓PD.w_keys, ↓PD.w_star, ↓PD.w_enum, ↓PD.w_var, ↓PD.w_varB, ↓PD.w_c, ↓PD.w_2, ↓PD.w_nil, ↓PD.w_cons, ↓PD.w_tup, ↓PD.w_lst, ↓PD.w_call, ↓PD.w_callB, ↓PD.w_b, ↓PD.w_nop, ↓PD.w_p, ↓PD.w_sl, ↓PD.w_rev, ↓PD.w_m, ↓PD.w_is, ↓PD.w_test, ↓PD.w_tru, ↓PD.w_notT, ↓PD.w_andT, ↓PD.w_orT, ↓PD.w_andV, ↓PD.w_notV, ↓PD.w_ifE, ↓PD.w_chain, ↓PD.w_neg, ↓PD.w_it, ↓PD.w_rng1, ↓PD.w_rng2E, ↓PD.w_lc, ↓PD.w_lc2, ↓PD.w_sortSet, ↓PD.w_sortLen, ↓PD.w_thenF, ↓PD.w_dnew, ↓PD.w_dput, ↓PD.w_aug, ↓PD.w_putI, ↓PD.w_augI, ↓PD.w_revR, ↓PD.thenK_nx, ↓PD.w_bNm, ↓PD.w_bTup, ↓PD.w_bTupP, ↓PD.w_bTupN, ↓PD.w_bCons, ↓PD.w_bNil, ↓PD.nOw_no, ↓PD.nOw_fz, ↓PD.w_yes, ↓PD.w_seq, ↓PD.w_next, ↓PD.w_bk, ↓PD.w_ct, ↓PD.w_no, ↓PD.w_if, ↓PD.w_set, ↓PD.w_setN, ↓PD.w_asg, ↓PD.w_ret, ↓PD.w_retV, ↓PD.w_retN, ↓PD.w_drop, ↓PD.w_app, ↓PD.w_ext, ↓PD.w_for, ↓PD.w_run, ↓PD.w_str, ↓PD.w_strP, ↓PD.seqK_nx, ↓PD.seqK_rt, ↓PD.seqK_bk, ↓PD.seqK_ct, ↓PD.outP_rt, ↓PD.outP_nx, ↓PD.loopK_nx, ↓PD.loopK_ct, ↓PD.loopK_bk, ↓PD.loopK_rt, ↓PD.isB_bl, ↓PD.isI_int, ↓PD.isS_str, ↓PD.pu_some, ↓PD.pu_none, ↓PD.ok_some, ↓PD.ok_none, PD.gInG_str, PD.gInX_str, PD.sdF_1, PD.sdT_1, PD.gCount_ints, PD.gMinA_lst, PD.gMaxA_lst, PD.seqD_lst, PD.seqD_tup, PD.gMul_int, PD.gMul_str, PD.gI_, PD.gI0_, PD.gAdd_int, PD.gAdd_str, PD.gAdd_tup, PD.gLt_int, PD.gLe_int, PD.gGt_int, PD.gGe_int, PD.gLen_str, PD.gLen_lst, PD.gLen_tup, PD.gAbs_, PD.gIntOf_int, PD.gIx_lst, PD.gIx_tup, PD.gIx_str, PD.gIxA_lst, PD.gIxA_tup, PD.gIxA_str, PD.gIxA_dk, PD.gIxA_dkI, PD.gInA_sign, PD.gInA_strs, PD.gNotInA_strs, PD.gInA_dk, PD.gLenA_str, PD.gLenA_lst, PD.gLenA_tup, PD.gLenA_dk, PD.gIntOf_bl, PD.gSortD_lst, PD.gTupB_lst, PD.gTupB_tup, PD.gTupB_str, PD.gGeA_int, PD.gGeA_ints, PD.gCat_, PD.gRepA_, PD.gStarts_1, PD.gStarts_3, PD.gEnds_1, PD.gEnds_4, PD.dKey_str, PD.dKey_int, PD.gSl_lst, PD.gSl_tup, PD.gSl_str, PD.gRev_lst, PD.gRev_tup, PD.gRev_str, PD.gLstA_lst, PD.gLstA_tup, PD.gLstA_str, PD.gTupA_lst, PD.gTupA_tup, PD.gAll_, PD.gAny_, PD.gSum_, PD.gSortA_strs, PD.gSortA_pairs, PD.gJoin_lst, PD.gEq_int, PD.gEq_bl, PD.gIs_non, PD.gIn_sign, PD.gIn_strs, PD.gNotIn_strs, PD.items_lst, PD.items_tup, PD.items_str, PD.rng1_, PD.rng2_, PD.dTru_bl, PD.dTru_int, PD.dTru_non, PD.dTru_tup, PD.dTru_lst, PD.dTru_str, PD.pairD, PD.isTy_int_non, PD.isTy_int_bl, PD.isTy_int_int, PD.isTy_int_str, PD.isTy_int_tup, PD.isTy_int_lst, PD.isTy_bool_non, PD.isTy_bool_bl, PD.isTy_bool_int, PD.isTy_bool_str, PD.isTy_bool_tup, PD.isTy_bool_lst, PD.isTy_str_non, PD.isTy_str_bl, PD.isTy_str_int, PD.isTy_str_str, PD.isTy_str_tup, PD.isTy_str_lst, PD.isTy_tuple_non, PD.isTy_tuple_bl, PD.isTy_tuple_int, PD.isTy_tuple_str, PD.isTy_tuple_tup, PD.isTy_tuple_lst, PD.isTy_list_non, PD.isTy_list_bl, PD.isTy_list_int, PD.isTy_list_str, PD.isTy_list_tup, PD.isTy_list_lst, PD.wipeE, PD.initE, List.length_cons, List.length_nil, List.length_map, List.map_cons, List.map_nil, List.getElem?_cons_zero, List.getElem?_cons_succ, List.getElem?_nil, List.set_cons_zero, List.set_cons_succ, List.replicate_succ, List.replicate_zero, List.cons_append, List.nil_append, Option.some.injEq, Option.bind_some, Option.map_some, Slo.fz.injEq, Slo.ow.injEq, Dat.bl.injEq, Dat.int.injEq, Dat.str.injEq, Dat.tup.injEq, Dat.lst.injEq, Dat.dk.injEq, List.cons.injEq, reduceCtorEq, exists_eq_left, exists_eq_left', exists_and_left, false_or, or_false, true_or, false_and, and_false, true_and, and_true, if_true, if_false, Bool.not_true, Bool.not_false, Bool.false_eq_true, Bool.true_eq_false, Bool.false_xor, Bool.true_xor, decide_eq_true_eq, decide_eq_false_iff_not, Nat.reduceAdd, Nat.reduceSub, Nat.reduceLT, Nat.reduceLeDiff, Nat.zero_add, Nat.zero_lt_succ, Nat.reduceEqDiff, Int.reduceEq, Int.reduceNeg, reduceIte, eq_self_iff_true, ne_eq, not_true_eq_false, not_false_eq_true, Int.reduceAdd, Int.reduceSub, Int.reduceLT, Int.reduceLE, Int.reducePow, Int.reduceToNat, Int.toNat_natCast])

def hasD (ws : List (Str × Int)) : Dat → Bool
  | .str x => decide (x ∈ ws.map (·.1))
  | _ => false
theorem hasD_mem {ws : List (Str × Int)} {w : Str × Int} (h : w ∈ ws) : hasD ws (.str w.1) = true := decide_eq_true (List.mem_map_of_mem h)
/-! reversed words -/
def revW (w : Str × Int) : Str × Int := (revS w.1, w.2)
def revL (ws : List (Str × Int)) : List (Str × Int) := sortP (ws.map revW)
theorem revS_cps (x : Str) : (revS x).cps.toList = x.cps.toList.reverse := rfl
theorem revS_revS (x : Str) : revS (revS x) = x := str_ext (by rw [revS_cps, revS_cps, List.reverse_reverse])
theorem revS_len (x : Str) : (revS x).length = x.length := by rw [len_cps, len_cps, revS_cps, List.length_reverse]
theorem revW_revW (w : Str × Int) : revW (revW w) = w := by show (revS (revS w.1), w.2) = w; rw [revS_revS]
theorem revS_sg (c : Nat) : revS (sg c) = sg c := rfl
theorem mem_revL {ws : List (Str × Int)} {w : Str × Int} : w ∈ revL ws ↔ revW w ∈ ws := by
  unfold revL
  rw [(sortP_perm _).mem_iff, List.mem_map]
  constructor
  · rintro ⟨v, hv, rfl⟩; rw [revW_revW]; exact hv
  · intro h; exact ⟨_, h, revW_revW w⟩
theorem revN_nd {ws : List (Str × Int)} (h : (ws.map (·.1)).Nodup) : ((ws.map revW).map (·.1)).Nodup := by
  rw [List.map_map]
  have e : (ws.map ((·.1) ∘ revW)) = (ws.map (·.1)).map revS := by rw [List.map_map]; rfl
  rw [e]
  exact List.pairwise_map.mpr (h.imp fun {a b} n e => n (by have := congrArg revS e; rwa [revS_revS, revS_revS] at this))
theorem revL_WL {ws : List (Str × Int)} (h : WL ws) : WL (revL ws) := by
  refine ⟨?_, fun w hw => ?_, List.pairwise_map.mpr (sortP_lt (revN_nd h.nd)), fun w hw c hc => ?_⟩
  · unfold revL
    rw [(sortP_perm _).length_eq, List.length_map]
    exact h.len
  · obtain ⟨h1, h2⟩ := h.ent _ (mem_revL.mp hw)
    refine ⟨?_, h2⟩
    have h1 : wordB (revS w.1) = true := h1
    rw [wordB_iff, revS_len] at h1
    rw [wordB_iff]
    exact ⟨h1.1, fun c hc => h1.2 c (by rw [revS_cps]; exact List.mem_reverse.mpr hc)⟩
  · have h1 := h.has _ (mem_revL.mp hw) c (by show c ∈ (revS w.1).cps.toList; rw [revS_cps]; exact List.mem_reverse.mpr hc)
    obtain ⟨v, hv, e⟩ := List.mem_map.mp h1
    refine List.mem_map.mpr ⟨revW v, mem_revL.mpr (by rw [revW_revW]; exact hv), ?_⟩
    show revS v.1 = sg c
    rw [e, revS_sg]
theorem nd_of_map {α β : Type} {f : α → β} : ∀ {xs : List α}, (xs.map f).Nodup → xs.Nodup
  | [], _ => List.nodup_nil
  | x :: xs, h => by
    rw [List.map_cons, List.nodup_cons] at h
    exact List.nodup_cons.mpr ⟨fun m => h.1 (List.mem_map_of_mem m), nd_of_map h.2⟩
theorem WL.uniq {ws vs : List (Str × Int)} (h : WL ws) (k : WL vs) (e : ∀ w, w ∈ ws ↔ w ∈ vs) : ws = vs :=
  pw_unique (R := fun a b : Str × Int => a.1.cps.toList < b.1.cps.toList) (fun _ => List.lt_irrefl _) (fun _ _ h k => List.lt_irrefl _ (List.lt_trans h k)) h.srt2 k.srt2 e
theorem revL_revL {ws : List (Str × Int)} (h : WL ws) : revL (revL ws) = ws :=
  (revL_WL (revL_WL h)).uniq h fun w => by rw [mem_revL, mem_revL, revW_revW]
theorem sort_rev_ok {ws : List (Str × Int)} {Q : Dat → Prop} (h : WL ws) (q : Q (.lst ((revL ws).map PD.pairD))) : Pu (gSortA [.lst (ws.map fun w => PD.pairD (revW w))]) Q := by
  have hl := h.len
  cases ws with
  | nil => simp at hl
  | cons w ws =>
    have e : ((w :: ws).map fun w => PD.pairD (revW w)) = ((revW w) :: ws.map revW).map PD.pairD := by simp
    rw [e, gSortA_pairs]
    exact ⟨by rw [List.length_cons, List.length_map]; rw [List.length_cons] at hl; omega, q⟩
/-! beginnings -/
def pres (ws : List (Str × Int)) : List Str := ws.flatMap fun w => (List.range w.1.length).map (pre w.1)
def begs (ws : List (Str × Int)) : List Str := sortLen (sortS (metS (pres ws)))
theorem mem_begs {ws : List (Str × Int)} {x : Str} : x ∈ begs ws ↔ ∃ w ∈ ws, ∃ k < w.1.length, x = pre w.1 k := by
  unfold begs sortLen sortS
  rw [(List.mergeSort_perm _ _).mem_iff, (List.mergeSort_perm _ _).mem_iff]
  have : x ∈ metS (pres ws) ↔ x ∈ pres ws := by
    constructor
    · intro h
      rcases mem_metS _ [] x h with h | h
      · cases h
      · exact h
    · have go : ∀ (xs ys : List Str), (x ∈ ys ∨ x ∈ xs) → x ∈ xs.foldl insS ys := by
        intro xs
        induction xs with
        | nil => intro ys h; exact h.resolve_right (by simp)
        | cons y xs ih =>
          intro ys h
          refine ih _ ?_
          unfold insS
          rcases h with h | h
          · left; split
            · exact h
            · exact List.mem_append_left _ h
          · rcases List.mem_cons.mp h with h | h
            · left; subst h; split
              · assumption
              · exact List.mem_append_right _ List.mem_cons_self
            · exact .inr h
      exact fun h => go _ [] (.inr h)
  rw [this]
  unfold pres
  rw [List.mem_flatMap]
  constructor
  · rintro ⟨w, hw, h⟩
    obtain ⟨k, hk, rfl⟩ := List.mem_map.mp h
    exact ⟨w, hw, k, List.mem_range.mp hk, rfl⟩
  · rintro ⟨w, hw, k, hk, rfl⟩
    exact ⟨w, hw, List.mem_map.mpr ⟨k, List.mem_range.mpr hk, rfl⟩⟩
theorem begs_LL {ws : List (Str × Int)} : (begs ws).Pairwise LL := sortLen_LL (sortSet_lt _)
theorem pres_len {ws : List (Str × Int)} (h : WL ws) : (pres ws).length ≤ 32 := by
  have : ∀ vs : List (Str × Int), (∀ w ∈ vs, w.1.length ≤ 4) → (pres vs).length ≤ 4 * vs.length := by
    intro vs
    induction vs with
    | nil => intro _; exact Nat.le_refl _
    | cons v vs ih =>
      intro hh
      have h1 := ih fun w hw => hh w (List.mem_cons_of_mem _ hw)
      have h2 := hh v List.mem_cons_self
      unfold pres at h1 ⊢
      rw [List.flatMap_cons, List.length_append, List.length_map, List.length_range, List.length_cons]
      omega
  have h1 := this ws fun w hw => (wordB_iff.mp (h.ent w hw).1).1.2
  have h2 := h.len.2
  omega
end LX

set_option maxHeartbeats 1000000
namespace LX
open PySem PySem.Spec PyProof.Rows L2 PD
local macro_rules | `(tactic| walk_at "wp") => `(tactic| simp (config := { maxSteps := 3000000 }) only [↓PD.w_callB1, ↓PD.w_fld, ↓PD.w_makeN, ↓PD.w_mth, ↓PD.w_mthS, ↓PD.w_mthD, ↓PD.w_mthB, ↓PD.w_mthX, ↓PD.w_putSame, ↓PD.w_put, ↓PD.w_put2, ↓PD.seqF_nx, ↓PD.w_seqF, ↓PD.w_fin, ↓PD.w_end, ↓PD.w_runO, ↓PD.w_makeX, ↓PD.w_runI, ↓PD.exR_ex, ↓PD.exF_ex, ↓PD.w_callO, ↓PD.coK_ok, ↓PD.coK_ex, ↓PD.w_forX, ↓PD.loopX_nx, ↓PD.loopX_ct, ↓PD.loopX_bk, ↓PD.loopX_rt, ↓PD.loopX_ex, ↓PD.w_inX, ↓PD.w_lift, ↓PD.w_seqX, ↓PD.w_ifX, ↓PD.w_callX, ↓PD.w_raise, ↓PD.w_runX, ↓PD.w_try, ↓PD.seqX_nx, ↓PD.seqX_rt, ↓PD.seqX_bk, ↓PD.seqX_ct, ↓PD.seqX_ex, ↓PD.cxK_ok, ↓PD.cxK_ex, ↓PD.outX_rt, ↓PD.outX_nx, ↓PD.outX_ex, ↓PD.tryK_fl, ↓PD.tryK_ex, ↓PD.w_enumL, ↓PD.w_inG, ↓PD.w_disp, ↓PD.w_zip, ↓PD.w_mL, ↓PD.w_keys, ↓PD.w_star, ↓PD.w_enum, ↓PD.w_var, ↓PD.w_varB, ↓PD.w_c, ↓PD.w_2, ↓PD.w_nil, ↓PD.w_cons, ↓PD.w_tup, ↓PD.w_lst, ↓PD.w_call, ↓PD.w_callB, ↓PD.w_b, ↓PD.w_nop, ↓PD.w_p, ↓PD.w_sl, ↓PD.w_rev, ↓PD.w_m, ↓PD.w_is, ↓PD.w_test, ↓PD.w_tru, ↓PD.w_notT, ↓PD.w_andT, ↓PD.w_orT, ↓PD.w_andV, ↓PD.w_notV, ↓PD.w_ifE, ↓PD.w_chain, ↓PD.w_neg, ↓PD.w_it, ↓PD.w_rng1, ↓PD.w_rng2E, ↓PD.w_lc, ↓PD.w_lc2, ↓PD.w_sortSet, ↓PD.w_sortLen, ↓PD.w_thenF, ↓PD.w_dnew, ↓PD.w_dput, ↓PD.w_aug, ↓PD.w_putI, ↓PD.w_augI, ↓PD.w_revR, ↓PD.thenK_nx, ↓PD.w_bNm, ↓PD.w_bTup, ↓PD.w_bTupP, ↓PD.w_bTupN, ↓PD.w_bCons, ↓PD.w_bNil, ↓PD.nOw_no, ↓PD.nOw_fz, ↓PD.w_yes, ↓PD.w_seq, ↓PD.w_next, ↓PD.w_bk, ↓PD.w_ct, ↓PD.w_no, ↓PD.w_if, ↓PD.w_set, ↓PD.w_setN, ↓PD.w_asg, ↓PD.w_ret, ↓PD.w_retV, ↓PD.w_retN, ↓PD.w_drop, ↓PD.w_app, ↓PD.w_ext, ↓PD.w_for, ↓PD.w_run, ↓PD.w_str, ↓PD.w_strP, ↓PD.seqK_nx, ↓PD.seqK_rt, ↓PD.seqK_bk, ↓PD.seqK_ct, ↓PD.outP_rt, ↓PD.outP_nx, ↓PD.loopK_nx, ↓PD.loopK_ct, ↓PD.loopK_bk, ↓PD.loopK_rt, ↓PD.isB_bl, ↓PD.isI_int, ↓PD.isS_str, ↓PD.pu_some, ↓PD.pu_none, ↓PD.ok_some, ↓PD.ok_none, PD.gInG_str, PD.gInX_str, PD.sdF_1, PD.sdT_1, PD.gCount_ints, PD.gMinA_lst, PD.gMaxA_lst, PD.seqD_lst, PD.seqD_tup, PD.gMul_int, PD.gMul_str, PD.gI_, PD.gI0_, PD.gAdd_int, PD.gAdd_str, PD.gAdd_tup, PD.gLt_int, PD.gLe_int, PD.gGt_int, PD.gGe_int, PD.gLen_str, PD.gLen_lst, PD.gLen_tup, PD.gAbs_, PD.gIntOf_int, PD.gIx_lst, PD.gIx_tup, PD.gIx_str, PD.gIxA_lst, PD.gIxA_tup, PD.gIxA_str, PD.gIxA_dk, PD.gIxA_dkI, PD.gInA_sign, PD.gInA_strs, PD.gNotInA_strs, PD.gInA_dk, PD.gLenA_str, PD.gLenA_lst, PD.gLenA_tup, PD.gLenA_dk, PD.gIntOf_bl, PD.gSortD_lst, PD.gTupB_lst, PD.gTupB_tup, PD.gTupB_str, PD.gGeA_int, PD.gGeA_ints, PD.gCat_, PD.gRepA_, PD.gStarts_1, PD.gStarts_3, PD.gEnds_1, PD.gEnds_4, PD.dKey_str, PD.dKey_int, PD.gSl_lst, PD.gSl_tup, PD.gSl_str, PD.gRev_lst, PD.gRev_tup, PD.gRev_str, PD.gLstA_lst, PD.gLstA_tup, PD.gLstA_str, PD.gTupA_lst, PD.gTupA_tup, PD.gAll_, PD.gAny_, PD.gSum_, PD.gSortA_strs, PD.gSortA_pairs, PD.gJoin_lst, PD.gEq_int, PD.gEq_bl, PD.gIs_non, PD.gIn_sign, PD.gIn_strs, PD.gNotIn_strs, PD.items_lst, PD.items_tup, PD.items_str, PD.rng1_, PD.rng2_, PD.dTru_bl, PD.dTru_int, PD.dTru_non, PD.dTru_tup, PD.dTru_lst, PD.dTru_str, PD.pairD, PD.isTy_int_non, PD.isTy_int_bl, PD.isTy_int_int, PD.isTy_int_str, PD.isTy_int_tup, PD.isTy_int_lst, PD.isTy_bool_non, PD.isTy_bool_bl, PD.isTy_bool_int, PD.isTy_bool_str, PD.isTy_bool_tup, PD.isTy_bool_lst, PD.isTy_str_non, PD.isTy_str_bl, PD.isTy_str_int, PD.isTy_str_str, PD.isTy_str_tup, PD.isTy_str_lst, PD.isTy_tuple_non, PD.isTy_tuple_bl, PD.isTy_tuple_int, PD.isTy_tuple_str, PD.isTy_tuple_tup, PD.isTy_tuple_lst, PD.isTy_list_non, PD.isTy_list_bl, PD.isTy_list_int, PD.isTy_list_str, PD.isTy_list_tup, PD.isTy_list_lst, PD.wipeE, PD.initE, List.length_cons, List.length_nil, List.length_map, List.map_cons, List.map_nil, List.getElem?_cons_zero, List.getElem?_cons_succ, List.getElem?_nil, List.set_cons_zero, List.set_cons_succ, List.replicate_succ, List.replicate_zero, List.cons_append, List.nil_append, Option.some.injEq, Option.bind_some, Option.map_some, Slo.fz.injEq, Slo.ow.injEq, Dat.bl.injEq, Dat.int.injEq, Dat.str.injEq, Dat.tup.injEq, Dat.lst.injEq, Dat.dk.injEq, List.cons.injEq, reduceCtorEq, exists_eq_left, exists_eq_left', exists_and_left, false_or, or_false, true_or, false_and, and_false, true_and, and_true, if_true, if_false, Bool.not_true, Bool.not_false, Bool.false_eq_true, Bool.true_eq_false, Bool.false_xor, Bool.true_xor, decide_eq_true_eq, decide_eq_false_iff_not, Nat.reduceAdd, Nat.reduceSub, Nat.reduceLT, Nat.reduceLeDiff, Nat.zero_add, Nat.zero_lt_succ, Nat.reduceEqDiff, Int.reduceEq, Int.reduceNeg, reduceIte, eq_self_iff_true, ne_eq, not_true_eq_false, not_false_eq_true, Int.reduceAdd, Int.reduceSub, Int.reduceLT, Int.reduceLE, Int.reducePow, Int.reduceToNat, Int.toNat_natCast])

/-- a text of the list, of whatever length -/
def Tx (ws : List (Str × Int)) (x : Str) : Prop := ∀ c ∈ x.cps.toList, c ∈ lets ws
theorem Tx.fit {ws : List (Str × Int)} {x : Str} (h : Tx ws x) (hl : x.length ≤ 30) : fitB ws (.str x) = true := by
  show (_ && _) = true
  rw [decide_eq_true hl, Bool.true_and, List.all_eq_true]
  exact fun c hc => decide_eq_true (h c hc)
theorem Tx.sm {ws : List (Str × Int)} {x : Str} (h : Tx ws x) (hW : WL ws) : SmS x := fun c hc => az_small c (lets_az hW (h c hc))
theorem Tx.sub {ws : List (Str × Int)} {x : Str} (h : Tx ws x) (i j : Nat) : Tx ws (PD.sub x i j) := fun c hc => h c (List.mem_of_mem_drop (List.mem_of_mem_take hc))
theorem check_text_ok {ws : List (Str × Int)} {x : Str} {S : Sm} (h : WL ws) (hx : Tx ws x) (hl : x.length ≤ 30) : Ok (p_check_text [listD ws, .str x] S) fun r S' => S' = S ∧ r = .non := by
  unfold p_check_text m_check_text
  walk_at "wp"
  refine (check_list_ok h).mono ?_
  rintro r S' ⟨rfl, rfl⟩
  try walk_at "wp"
  refine (fits_ok h.le rfl).mono ?_
  rintro r S' ⟨rfl, rfl⟩
  rw [hx.fit hl]
  walk_at "wp"
theorem int_in {lo hi i : Int} (h1 : lo ≤ i) (h2 : i ≤ hi) : intD lo hi (.int i) = true := decide_eq_true ⟨h1, h2⟩
/-- the words that begin at i, that end at j -/
def at_ (ws : List (Str × Int)) (x : Str) (i : Nat) : List Str := (ws.map (·.1)).filter (St x i)
def en_ (ws : List (Str × Int)) (x : Str) (j : Nat) : List Str := sortLen ((ws.map (·.1)).filter (En x j))
theorem find_starting_ok {ws : List (Str × Int)} {x : Str} {i : Nat} {S : Sm} (h : WL ws) : Ok (p_find_starting [listD ws, .str x, .int i] S) fun r S' => S' = S ∧ r = .lst ((at_ ws x i).map .str) := by
  unfold p_find_starting m_find_starting
  walk_at "wp"
  rw [items_listD]
  refine ok_lcP PD.pairD (fun w => St x i w.1) (fun w => Dat.str w.1) ws (fun w hw => ?_) ?_
  · walk_at "wp"
    exact ⟨starts3 (h.one hw).1, fun _ => trivial⟩
  · unfold at_
    rw [List.filter_map, List.map_map]
    exact ⟨rfl, rfl⟩
/-! the orders of both -/
abbrev LenLt (a b : Str) : Prop := a.length < b.length
theorem len_unique {xs ys : List Str} (hx : xs.Pairwise LenLt) (hy : ys.Pairwise LenLt) (h : ∀ a, a ∈ xs ↔ a ∈ ys) : xs = ys :=
  pw_unique (R := LenLt) (fun _ => Nat.lt_irrefl _) (fun _ _ h k => Nat.lt_asymm h k) hx hy h
theorem at_len {ws : List (Str × Int)} {x : Str} {i : Nat} (h : WL ws) : (at_ ws x i).Pairwise LenLt := by
  refine (List.Pairwise.and_mem.mp (h.srt.filter (St x i))).imp fun {a b} q => ?_
  obtain ⟨ha, hb, hlt⟩ := q
  have h1 := of_decide_eq_true (List.mem_filter.mp ha).2
  have h2 := of_decide_eq_true (List.mem_filter.mp hb).2
  have := pre_lt h1 h2 hlt
  show a.length < b.length
  rw [len_cps, len_cps]
  exact this
theorem mem_at {ws : List (Str × Int)} {x y : Str} {i : Nat} : y ∈ at_ ws x i ↔ y ∈ ws.map (·.1) ∧ y.cps.toList <+: x.cps.toList.drop i := by
  unfold at_ PD.St
  rw [List.mem_filter, decide_eq_true_eq]
theorem mem_en {ws : List (Str × Int)} {x y : Str} {j : Nat} : y ∈ en_ ws x j ↔ y ∈ ws.map (·.1) ∧ y.cps.toList <:+ x.cps.toList.take j := by
  unfold en_ En sortLen
  rw [(List.mergeSort_perm _ _).mem_iff, List.mem_filter, decide_eq_true_eq]
theorem suf_eq {a b r : List Nat} (ha : a <:+ r) (hb : b <:+ r) (h : a.length = b.length) : a = b := by
  rw [List.suffix_iff_eq_drop] at ha hb
  rw [ha, hb, h]
theorem en_len {ws : List (Str × Int)} {x : Str} {j : Nat} (h : WL ws) : (en_ ws x j).Pairwise LenLt := by
  have s := sortLen_LL (h.srt.filter (En x j))
  refine (List.Pairwise.and_mem.mp s).imp fun {a b} q => ?_
  obtain ⟨ha, hb, hlt⟩ := q
  have ma : a ∈ en_ ws x j := ha
  have mb : b ∈ en_ ws x j := hb
  rcases hlt with hlt | ⟨hl, hlt⟩
  · exact hlt
  · rw [len_cps, len_cps] at hl
    rw [suf_eq (mem_en.mp ma).2 (mem_en.mp mb).2 hl] at hlt
    exact (List.lt_irrefl _ hlt).elim
theorem sg_at {ws : List (Str × Int)} {x : Str} {i : Nat} (hx : Tx ws x) (hi : i < x.length) : sg (x.cps.toList[i]'(by rw [← len_cps]; exact hi)) ∈ at_ ws x i := by
  have hi2 : i < x.cps.toList.length := by rw [← len_cps]; exact hi
  refine mem_at.mpr ⟨mem_lets.mp (hx _ (List.getElem_mem _)), ?_⟩
  rw [List.drop_eq_getElem_cons hi2]
  exact ⟨_, rfl⟩
theorem at_ne {ws : List (Str × Int)} {x : Str} {i : Nat} (hx : Tx ws x) (hi : i < x.length) : at_ ws x i ≠ [] := List.ne_nil_of_mem (sg_at hx hi)
theorem en_ne {ws : List (Str × Int)} {x : Str} {j : Nat} (hx : Tx ws x) (h0 : 1 ≤ j) (hj : j ≤ x.length) : en_ ws x j ≠ [] := by
  have hi2 : j - 1 < x.cps.toList.length := by rw [← len_cps]; omega
  refine List.ne_nil_of_mem (a := sg (x.cps.toList[j - 1])) (mem_en.mpr ⟨mem_lets.mp (hx _ (List.getElem_mem _)), ?_⟩)
  have e : x.cps.toList.take j = x.cps.toList.take (j - 1) ++ [x.cps.toList[j - 1]] := by
    rw [List.take_append_getElem]
    congr 1
    omega
  rw [e]
  exact ⟨_, rfl⟩
theorem last_str {xs : List Str} (h : xs ≠ []) {Q : Dat → Prop} (q : Q (.str (xs.getLast h))) : Pu (atI (xs.map Dat.str) (-1)) Q := by
  rw [PD.atI_last, List.getLast?_map, List.getLast?_eq_some_getLast h]
  exact pu_some.mpr q
end LX

set_option maxHeartbeats 1000000
namespace LX
open PySem PySem.Spec PyProof.Rows L2 PD
local macro_rules | `(tactic| walk_at "wp") => `(tactic| simp (config := { maxSteps := 3000000 }) only [↓PD.w_callB1, ↓PD.w_fld, ↓PD.w_makeN, ↓PD.w_mth, ↓PD.w_mthS, ↓PD.w_mthD, ↓PD.w_mthB, ↓PD.w_mthX, ↓PD.w_putSame, ↓PD.w_put, ↓PD.w_put2, ↓PD.seqF_nx, ↓PD.w_seqF, ↓PD.w_fin, ↓PD.w_end, ↓PD.w_runO, ↓PD.w_makeX, ↓PD.w_runI, ↓PD.exR_ex, ↓PD.exF_ex, ↓PD.w_callO, ↓PD.coK_ok, ↓PD.coK_ex, ↓PD.w_forX, ↓PD.loopX_nx, ↓PD.loopX_ct, ↓PD.loopX_bk, ↓PD.loopX_rt, ↓PD.loopX_ex, ↓PD.w_inX, ↓PD.w_lift, ↓PD.w_seqX, ↓PD.w_ifX, ↓PD.w_callX, ↓PD.w_raise, ↓PD.w_runX, ↓PD.w_try, ↓PD.seqX_nx, ↓PD.seqX_rt, ↓PD.seqX_bk, ↓PD.seqX_ct, ↓PD.seqX_ex, ↓PD.cxK_ok, ↓PD.cxK_ex, ↓PD.outX_rt, ↓PD.outX_nx, ↓PD.outX_ex, ↓PD.tryK_fl, ↓PD.tryK_ex, ↓PD.w_enumL, ↓PD.w_inG, ↓PD.w_disp, ↓PD.w_zip, ↓PD.w_mL, ↓PD.w_keys, ↓PD.w_star, ↓PD.w_enum, ↓PD.w_var, ↓PD.w_varB, ↓PD.w_c, ↓PD.w_2, ↓PD.w_nil, ↓PD.w_cons, ↓PD.w_tup, ↓PD.w_lst, ↓PD.w_call, ↓PD.w_callB, ↓PD.w_b, ↓PD.w_nop, ↓PD.w_p, ↓PD.w_sl, ↓PD.w_rev, ↓PD.w_m, ↓PD.w_is, ↓PD.w_test, ↓PD.w_tru, ↓PD.w_notT, ↓PD.w_andT, ↓PD.w_orT, ↓PD.w_andV, ↓PD.w_notV, ↓PD.w_ifE, ↓PD.w_chain, ↓PD.w_neg, ↓PD.w_it, ↓PD.w_rng1, ↓PD.w_rng2E, ↓PD.w_lc, ↓PD.w_lc2, ↓PD.w_sortSet, ↓PD.w_sortLen, ↓PD.w_thenF, ↓PD.w_dnew, ↓PD.w_dput, ↓PD.w_aug, ↓PD.w_putI, ↓PD.w_augI, ↓PD.w_revR, ↓PD.thenK_nx, ↓PD.w_bNm, ↓PD.w_bTup, ↓PD.w_bTupP, ↓PD.w_bTupN, ↓PD.w_bCons, ↓PD.w_bNil, ↓PD.nOw_no, ↓PD.nOw_fz, ↓PD.w_yes, ↓PD.w_seq, ↓PD.w_next, ↓PD.w_bk, ↓PD.w_ct, ↓PD.w_no, ↓PD.w_if, ↓PD.w_set, ↓PD.w_setN, ↓PD.w_asg, ↓PD.w_ret, ↓PD.w_retV, ↓PD.w_retN, ↓PD.w_drop, ↓PD.w_app, ↓PD.w_ext, ↓PD.w_for, ↓PD.w_run, ↓PD.w_str, ↓PD.w_strP, ↓PD.seqK_nx, ↓PD.seqK_rt, ↓PD.seqK_bk, ↓PD.seqK_ct, ↓PD.outP_rt, ↓PD.outP_nx, ↓PD.loopK_nx, ↓PD.loopK_ct, ↓PD.loopK_bk, ↓PD.loopK_rt, ↓PD.isB_bl, ↓PD.isI_int, ↓PD.isS_str, ↓PD.pu_some, ↓PD.pu_none, ↓PD.ok_some, ↓PD.ok_none, PD.gInG_str, PD.gInX_str, PD.sdF_1, PD.sdT_1, PD.gCount_ints, PD.gMinA_lst, PD.gMaxA_lst, PD.seqD_lst, PD.seqD_tup, PD.gMul_int, PD.gMul_str, PD.gI_, PD.gI0_, PD.gAdd_int, PD.gAdd_str, PD.gAdd_tup, PD.gLt_int, PD.gLe_int, PD.gGt_int, PD.gGe_int, PD.gLen_str, PD.gLen_lst, PD.gLen_tup, PD.gAbs_, PD.gIntOf_int, PD.gIx_lst, PD.gIx_tup, PD.gIx_str, PD.gIxA_lst, PD.gIxA_tup, PD.gIxA_str, PD.gIxA_dk, PD.gIxA_dkI, PD.gInA_sign, PD.gInA_strs, PD.gNotInA_strs, PD.gInA_dk, PD.gLenA_str, PD.gLenA_lst, PD.gLenA_tup, PD.gLenA_dk, PD.gIntOf_bl, PD.gSortD_lst, PD.gTupB_lst, PD.gTupB_tup, PD.gTupB_str, PD.gGeA_int, PD.gGeA_ints, PD.gCat_, PD.gRepA_, PD.gStarts_1, PD.gStarts_3, PD.gEnds_1, PD.gEnds_4, PD.dKey_str, PD.dKey_int, PD.gSl_lst, PD.gSl_tup, PD.gSl_str, PD.gRev_lst, PD.gRev_tup, PD.gRev_str, PD.gLstA_lst, PD.gLstA_tup, PD.gLstA_str, PD.gTupA_lst, PD.gTupA_tup, PD.gAll_, PD.gAny_, PD.gSum_, PD.gSortA_strs, PD.gSortA_pairs, PD.gJoin_lst, PD.gEq_int, PD.gEq_bl, PD.gIs_non, PD.gIn_sign, PD.gIn_strs, PD.gNotIn_strs, PD.items_lst, PD.items_tup, PD.items_str, PD.rng1_, PD.rng2_, PD.dTru_bl, PD.dTru_int, PD.dTru_non, PD.dTru_tup, PD.dTru_lst, PD.dTru_str, PD.pairD, PD.isTy_int_non, PD.isTy_int_bl, PD.isTy_int_int, PD.isTy_int_str, PD.isTy_int_tup, PD.isTy_int_lst, PD.isTy_bool_non, PD.isTy_bool_bl, PD.isTy_bool_int, PD.isTy_bool_str, PD.isTy_bool_tup, PD.isTy_bool_lst, PD.isTy_str_non, PD.isTy_str_bl, PD.isTy_str_int, PD.isTy_str_str, PD.isTy_str_tup, PD.isTy_str_lst, PD.isTy_tuple_non, PD.isTy_tuple_bl, PD.isTy_tuple_int, PD.isTy_tuple_str, PD.isTy_tuple_tup, PD.isTy_tuple_lst, PD.isTy_list_non, PD.isTy_list_bl, PD.isTy_list_int, PD.isTy_list_str, PD.isTy_list_tup, PD.isTy_list_lst, PD.wipeE, PD.initE, List.length_cons, List.length_nil, List.length_map, List.map_cons, List.map_nil, List.getElem?_cons_zero, List.getElem?_cons_succ, List.getElem?_nil, List.set_cons_zero, List.set_cons_succ, List.replicate_succ, List.replicate_zero, List.cons_append, List.nil_append, Option.some.injEq, Option.bind_some, Option.map_some, Slo.fz.injEq, Slo.ow.injEq, Dat.bl.injEq, Dat.int.injEq, Dat.str.injEq, Dat.tup.injEq, Dat.lst.injEq, Dat.dk.injEq, List.cons.injEq, reduceCtorEq, exists_eq_left, exists_eq_left', exists_and_left, false_or, or_false, true_or, false_and, and_false, true_and, and_true, if_true, if_false, Bool.not_true, Bool.not_false, Bool.false_eq_true, Bool.true_eq_false, Bool.false_xor, Bool.true_xor, decide_eq_true_eq, decide_eq_false_iff_not, Nat.reduceAdd, Nat.reduceSub, Nat.reduceLT, Nat.reduceLeDiff, Nat.zero_add, Nat.zero_lt_succ, Nat.reduceEqDiff, Int.reduceEq, Int.reduceNeg, reduceIte, eq_self_iff_true, ne_eq, not_true_eq_false, not_false_eq_true, Int.reduceAdd, Int.reduceSub, Int.reduceLT, Int.reduceLE, Int.reducePow, Int.reduceToNat, Int.toNat_natCast])

theorem Tx.word {ws : List (Str × Int)} (h : WL ws) {w : Str × Int} (hw : w ∈ ws) : Tx ws w.1 := fun c hc => mem_lets.mpr (h.has w hw c hc)
theorem Tx.cat {ws : List (Str × Int)} {x y : Str} (h : Tx ws x) (k : Tx ws y) : Tx ws (x ++ y) := fun c hc => by
  rw [cat_cps] at hc
  exact (List.mem_append.mp hc).elim (h c) (k c)
theorem Tx.pre {ws : List (Str × Int)} {x : Str} (h : Tx ws x) (k : Nat) : Tx ws (PD.pre x k) := fun c hc => h c (List.mem_of_mem_take hc)
theorem Tx.sg {ws : List (Str × Int)} {c : Nat} (h : c ∈ lets ws) : Tx ws (PD.sg c) := fun k hk => by
  have hk : k ∈ [c] := hk
  rw [List.mem_singleton.mp hk]; exact h

end LX

set_option maxHeartbeats 1000000
namespace LX
open PySem PySem.Spec PyProof.Rows L2 PD
local macro_rules | `(tactic| walk_at "wp") => `(tactic| simp (config := { maxSteps := 3000000 }) only [↓PD.w_callB1, ↓PD.w_fld, ↓PD.w_makeN, ↓PD.w_mth, ↓PD.w_mthS, ↓PD.w_mthD, ↓PD.w_mthB, ↓PD.w_mthX, ↓PD.w_putSame, ↓PD.w_put, ↓PD.w_put2, ↓PD.seqF_nx, ↓PD.w_seqF, ↓PD.w_fin, ↓PD.w_end, ↓PD.w_runO, ↓PD.w_makeX, ↓PD.w_runI, ↓PD.exR_ex, ↓PD.exF_ex, ↓PD.w_callO, ↓PD.coK_ok, ↓PD.coK_ex, ↓PD.w_forX, ↓PD.loopX_nx, ↓PD.loopX_ct, ↓PD.loopX_bk, ↓PD.loopX_rt, ↓PD.loopX_ex, ↓PD.w_inX, ↓PD.w_lift, ↓PD.w_seqX, ↓PD.w_ifX, ↓PD.w_callX, ↓PD.w_raise, ↓PD.w_runX, ↓PD.w_try, ↓PD.seqX_nx, ↓PD.seqX_rt, ↓PD.seqX_bk, ↓PD.seqX_ct, ↓PD.seqX_ex, ↓PD.cxK_ok, ↓PD.cxK_ex, ↓PD.outX_rt, ↓PD.outX_nx, ↓PD.outX_ex, ↓PD.tryK_fl, ↓PD.tryK_ex, ↓PD.w_enumL, ↓PD.w_inG, ↓PD.w_disp, ↓PD.w_zip, ↓PD.w_mL, ↓PD.w_keys, ↓PD.w_star, ↓PD.w_enum, ↓PD.w_var, ↓PD.w_varB, ↓PD.w_c, ↓PD.w_2, ↓PD.w_nil, ↓PD.w_cons, ↓PD.w_tup, ↓PD.w_lst, ↓PD.w_call, ↓PD.w_callB, ↓PD.w_b, ↓PD.w_nop, ↓PD.w_p, ↓PD.w_sl, ↓PD.w_rev, ↓PD.w_m, ↓PD.w_is, ↓PD.w_test, ↓PD.w_tru, ↓PD.w_notT, ↓PD.w_andT, ↓PD.w_orT, ↓PD.w_andV, ↓PD.w_notV, ↓PD.w_ifE, ↓PD.w_chain, ↓PD.w_neg, ↓PD.w_it, ↓PD.w_rng1, ↓PD.w_rng2E, ↓PD.w_lc, ↓PD.w_lc2, ↓PD.w_sortSet, ↓PD.w_sortLen, ↓PD.w_thenF, ↓PD.w_dnew, ↓PD.w_dput, ↓PD.w_aug, ↓PD.w_putI, ↓PD.w_augI, ↓PD.w_revR, ↓PD.thenK_nx, ↓PD.w_bNm, ↓PD.w_bTup, ↓PD.w_bTupP, ↓PD.w_bTupN, ↓PD.w_bCons, ↓PD.w_bNil, ↓PD.nOw_no, ↓PD.nOw_fz, ↓PD.w_yes, ↓PD.w_seq, ↓PD.w_next, ↓PD.w_bk, ↓PD.w_ct, ↓PD.w_no, ↓PD.w_if, ↓PD.w_set, ↓PD.w_setN, ↓PD.w_asg, ↓PD.w_ret, ↓PD.w_retV, ↓PD.w_retN, ↓PD.w_drop, ↓PD.w_app, ↓PD.w_ext, ↓PD.w_for, ↓PD.w_run, ↓PD.w_str, ↓PD.w_strP, ↓PD.seqK_nx, ↓PD.seqK_rt, ↓PD.seqK_bk, ↓PD.seqK_ct, ↓PD.outP_rt, ↓PD.outP_nx, ↓PD.loopK_nx, ↓PD.loopK_ct, ↓PD.loopK_bk, ↓PD.loopK_rt, ↓PD.isB_bl, ↓PD.isI_int, ↓PD.isS_str, ↓PD.pu_some, ↓PD.pu_none, ↓PD.ok_some, ↓PD.ok_none, PD.gInG_str, PD.gInX_str, PD.sdF_1, PD.sdT_1, PD.gCount_ints, PD.gMinA_lst, PD.gMaxA_lst, PD.seqD_lst, PD.seqD_tup, PD.gMul_int, PD.gMul_str, PD.gI_, PD.gI0_, PD.gAdd_int, PD.gAdd_str, PD.gAdd_tup, PD.gLt_int, PD.gLe_int, PD.gGt_int, PD.gGe_int, PD.gLen_str, PD.gLen_lst, PD.gLen_tup, PD.gAbs_, PD.gIntOf_int, PD.gIx_lst, PD.gIx_tup, PD.gIx_str, PD.gIxA_lst, PD.gIxA_tup, PD.gIxA_str, PD.gIxA_dk, PD.gIxA_dkI, PD.gInA_sign, PD.gInA_strs, PD.gNotInA_strs, PD.gInA_dk, PD.gLenA_str, PD.gLenA_lst, PD.gLenA_tup, PD.gLenA_dk, PD.gIntOf_bl, PD.gSortD_lst, PD.gTupB_lst, PD.gTupB_tup, PD.gTupB_str, PD.gGeA_int, PD.gGeA_ints, PD.gCat_, PD.gRepA_, PD.gStarts_1, PD.gStarts_3, PD.gEnds_1, PD.gEnds_4, PD.dKey_str, PD.dKey_int, PD.gSl_lst, PD.gSl_tup, PD.gSl_str, PD.gRev_lst, PD.gRev_tup, PD.gRev_str, PD.gLstA_lst, PD.gLstA_tup, PD.gLstA_str, PD.gTupA_lst, PD.gTupA_tup, PD.gAll_, PD.gAny_, PD.gSum_, PD.gSortA_strs, PD.gSortA_pairs, PD.gJoin_lst, PD.gEq_int, PD.gEq_bl, PD.gIs_non, PD.gIn_sign, PD.gIn_strs, PD.gNotIn_strs, PD.items_lst, PD.items_tup, PD.items_str, PD.rng1_, PD.rng2_, PD.dTru_bl, PD.dTru_int, PD.dTru_non, PD.dTru_tup, PD.dTru_lst, PD.dTru_str, PD.pairD, PD.isTy_int_non, PD.isTy_int_bl, PD.isTy_int_int, PD.isTy_int_str, PD.isTy_int_tup, PD.isTy_int_lst, PD.isTy_bool_non, PD.isTy_bool_bl, PD.isTy_bool_int, PD.isTy_bool_str, PD.isTy_bool_tup, PD.isTy_bool_lst, PD.isTy_str_non, PD.isTy_str_bl, PD.isTy_str_int, PD.isTy_str_str, PD.isTy_str_tup, PD.isTy_str_lst, PD.isTy_tuple_non, PD.isTy_tuple_bl, PD.isTy_tuple_int, PD.isTy_tuple_str, PD.isTy_tuple_tup, PD.isTy_tuple_lst, PD.isTy_list_non, PD.isTy_list_bl, PD.isTy_list_int, PD.isTy_list_str, PD.isTy_list_tup, PD.isTy_list_lst, PD.wipeE, PD.initE, List.length_cons, List.length_nil, List.length_map, List.map_cons, List.map_nil, List.getElem?_cons_zero, List.getElem?_cons_succ, List.getElem?_nil, List.set_cons_zero, List.set_cons_succ, List.replicate_succ, List.replicate_zero, List.cons_append, List.nil_append, Option.some.injEq, Option.bind_some, Option.map_some, Slo.fz.injEq, Slo.ow.injEq, Dat.bl.injEq, Dat.int.injEq, Dat.str.injEq, Dat.tup.injEq, Dat.lst.injEq, Dat.dk.injEq, List.cons.injEq, reduceCtorEq, exists_eq_left, exists_eq_left', exists_and_left, false_or, or_false, true_or, false_and, and_false, true_and, and_true, if_true, if_false, Bool.not_true, Bool.not_false, Bool.false_eq_true, Bool.true_eq_false, Bool.false_xor, Bool.true_xor, decide_eq_true_eq, decide_eq_false_iff_not, Nat.reduceAdd, Nat.reduceSub, Nat.reduceLT, Nat.reduceLeDiff, Nat.zero_add, Nat.zero_lt_succ, Nat.reduceEqDiff, Int.reduceEq, Int.reduceNeg, reduceIte, eq_self_iff_true, ne_eq, not_true_eq_false, not_false_eq_true, Int.reduceAdd, Int.reduceSub, Int.reduceLT, Int.reduceLE, Int.reducePow, Int.reduceToNat, Int.toNat_natCast])

/-! ### the longest match, as a row of words -/
structure Best (ws : List (Str × Int)) (t : List Nat) (w : Str) : Prop where
  mem : w ∈ ws.map (·.1)
  pre : w.cps.toList <+: t
  max : ∀ v ∈ ws.map (·.1), v.cps.toList <+: t → v.length ≤ w.length
theorem pre_same {a b : Str} {t : List Nat} (ha : a.cps.toList <+: t) (hb : b.cps.toList <+: t) (h : a.length = b.length) : a = b := by
  rw [len_cps, len_cps] at h
  rw [List.prefix_iff_eq_take] at ha hb
  exact str_ext (by rw [ha, hb, h])
theorem Best.uniq {ws : List (Str × Int)} {t : List Nat} {v w : Str} (h : Best ws t v) (k : Best ws t w) : v = w :=
  pre_same h.pre k.pre (Nat.le_antisymm (k.max v h.mem h.pre) (h.max w k.mem k.pre))
theorem WL.one' {ws : List (Str × Int)} (h : WL ws) {y : Str} (hy : y ∈ ws.map (·.1)) : 1 ≤ y.length ∧ y.length ≤ 4 := by
  obtain ⟨w, hw, rfl⟩ := List.mem_map.mp hy
  exact h.one hw
theorem Best.len {ws : List (Str × Int)} (h : WL ws) {t : List Nat} {w : Str} (b : Best ws t w) : 1 ≤ w.length ∧ w.length ≤ 4 ∧ w.length ≤ t.length := by
  have h1 := h.one' b.mem
  have h2 := b.pre.length_le
  rw [← len_cps] at h2
  exact ⟨h1.1, h1.2, h2⟩
def IsLM (ws : List (Str × Int)) : List Nat → List Str → Prop
  | t, [] => t = []
  | t, w :: l => Best ws t w ∧ IsLM ws (t.drop w.length) l
theorem isLM_nil {ws : List (Str × Int)} {t : List Nat} : IsLM ws t [] ↔ t = [] := Iff.rfl
theorem isLM_cons {ws : List (Str × Int)} {t : List Nat} {w : Str} {l : List Str} : IsLM ws t (w :: l) ↔ Best ws t w ∧ IsLM ws (t.drop w.length) l := Iff.rfl
theorem isLM_uniq {ws : List (Str × Int)} (h : WL ws) : ∀ {l m : List Str} {t : List Nat}, IsLM ws t l → IsLM ws t m → l = m
  | [], [], _, _, _ => rfl
  | [], w :: m, t, e, k => by
    have h1 := (k.1.len h)
    have e : t = [] := e
    rw [e] at h1
    simp at h1
    omega
  | w :: l, [], t, k, e => by
    have h1 := (k.1.len h)
    have e : t = [] := e
    rw [e] at h1
    simp at h1
    omega
  | v :: l, w :: m, t, a, b => by
    have e := a.1.uniq b.1
    subst e
    rw [isLM_uniq h a.2 b.2]
theorem IsLM.mem {ws : List (Str × Int)} : ∀ {l : List Str} {t : List Nat}, IsLM ws t l → ∀ y ∈ l, y ∈ ws.map (·.1)
  | w :: l, t, h, y, hy => by
    rcases List.mem_cons.mp hy with rfl | hy
    · exact h.1.mem
    · exact IsLM.mem h.2 y hy
theorem drop_pre {a t : List Nat} (h : a <+: t) : t = a ++ t.drop a.length := by
  obtain ⟨r, rfl⟩ := h
  rw [List.drop_left]
theorem IsLM.flat {ws : List (Str × Int)} : ∀ {l : List Str} {t : List Nat}, IsLM ws t l → l.flatMap (·.cps.toList) = t
  | [], t, h => by
    have h : t = [] := h
    rw [h]; rfl
  | w :: l, t, h => by
    rw [List.flatMap_cons, IsLM.flat h.2, len_cps]
    exact (drop_pre h.1.pre).symm
theorem flat_ge {ws : List (Str × Int)} (h : WL ws) : ∀ {l : List Str}, (∀ y ∈ l, y ∈ ws.map (·.1)) → l.length ≤ (l.flatMap (·.cps.toList)).length
  | [], _ => Nat.zero_le _
  | w :: l, hl => by
    have ih := flat_ge h fun y hy => hl y (List.mem_cons_of_mem _ hy)
    have h1 := (h.one' (hl w List.mem_cons_self)).1
    rw [List.flatMap_cons, List.length_append, List.length_cons, ← len_cps]
    omega
theorem IsLM.len {ws : List (Str × Int)} (h : WL ws) {l : List Str} {t : List Nat} (k : IsLM ws t l) : l.length ≤ t.length := by
  have := flat_ge h k.mem
  rwa [k.flat] at this
theorem last_max {α : Type} {R : α → α → Prop} : ∀ {l : List α} (ne : l ≠ []), l.Pairwise R → ∀ a ∈ l, a = l.getLast ne ∨ R a (l.getLast ne)
  | [a], _, _, b, hb => .inl (List.mem_singleton.mp hb)
  | a :: c :: l, ne, h, b, hb => by
    rw [List.getLast_cons (by simp)]
    rcases List.mem_cons.mp hb with rfl | hb
    · exact .inr ((List.pairwise_cons.mp h).1 _ (List.getLast_mem _))
    · exact last_max (by simp) (List.pairwise_cons.mp h).2 b hb
theorem best_at {ws : List (Str × Int)} {x : Str} {i : Nat} (h : WL ws) (ne : at_ ws x i ≠ []) : Best ws (x.cps.toList.drop i) ((at_ ws x i).getLast ne) := by
  have m := mem_at.mp (List.getLast_mem ne)
  refine ⟨m.1, m.2, fun v hv pv => ?_⟩
  rcases last_max ne (at_len h) v (mem_at.mpr ⟨hv, pv⟩) with e | e
  · rw [← e]; exact Nat.le_refl _
  · exact Nat.le_of_lt e
theorem find_match_ok {ws : List (Str × Int)} {x : Str} {i : Nat} {S : Sm} (h : WL ws) (hx : Tx ws x) (hl : x.length < 1000) (hi : i ≤ x.length) : Ok (p_find_match [listD ws, .str x, .int i] S) fun r S' => S' = S ∧ ∃ l : List Str, r = .tup (l.map .str) ∧ IsLM ws (x.cps.toList.drop i) l := by
  unfold p_find_match m_find_match
  walk_at "wp"
  refine ok_whGo (fun k env S' => S' = S ∧ ∃ (a : Nat) (l : List Str) (c : Slo), nOw c ∧ k = x.length - a ∧ a ≤ x.length ∧ l.length ≤ a ∧ (∀ r, IsLM ws (x.cps.toList.drop a) r → IsLM ws (x.cps.toList.drop i) (l ++ r)) ∧ env = [.fz (listD ws), .fz (.str x), .fz (.int a), .ow (.lst (l.map .str)), c]) ?_ 1000 (x.length - i) _ _ (by omega) ⟨rfl, i, [], .no, trivial, rfl, hi, Nat.zero_le _, fun r q => q, rfl⟩
  rintro k env S' ⟨rfl, a, l, c, hc, rfl, ha, hla, hr, rfl⟩
  walk_at "wp"
  refine ite_all (fun hlt => ?_) fun hlt => ?_
  · have hlt : a < x.length := by omega
    refine (find_starting_ok h).mono ?_
    rintro r0 S1 ⟨rfl, rfl⟩
    try walk_at "wp"
    have ne := at_ne hx hlt
    refine last_str ne ?_
    have b := best_at h ne
    have hb := b.len h
    rw [List.length_drop, ← len_cps] at hb
    try walk_at "wp"
    refine ⟨by omega, x.length - (a + ((at_ ws x a).getLast ne).length), by omega, a + ((at_ ws x a).getLast ne).length, l ++ [(at_ ws x a).getLast ne], .fz _, trivial, rfl, by omega, ?_, fun r q => ?_, ?_, ?_, rfl⟩
    · rw [List.length_append, List.length_singleton]; omega
    · rw [List.append_assoc]
      refine hr _ ⟨b, ?_⟩
      rw [List.drop_drop]
      exact q
    · rfl
    · rw [List.map_append]; rfl
  · have ea : a = x.length := by omega
    rw [w_frzOw rfl]
    walk_at "wp"
    refine ⟨l, rfl, ?_⟩
    have := hr [] (by rw [ea, len_cps, List.drop_length]; rfl)
    rwa [List.append_nil] at this
theorem best_exists {ws : List (Str × Int)} (h : WL ws) {t : List Nat} (ne : t ≠ []) (ht : ∀ c ∈ t, c ∈ lets ws) : ∃ w, Best ws t w := by
  have hl : 0 < (strOf t).length := by rw [strOf_len]; exact List.length_pos_iff.mpr ne
  have b := best_at (x := strOf t) (i := 0) h (at_ne (ws := ws) (x := strOf t) ht hl)
  rw [strOf_cps, List.drop_zero] at b
  exact ⟨_, b⟩
theorem lm_exists {ws : List (Str × Int)} (h : WL ws) : ∀ (n : Nat) {t : List Nat}, t.length ≤ n → (∀ c ∈ t, c ∈ lets ws) → ∃ l, IsLM ws t l
  | 0, t, hn, _ => ⟨[], List.length_eq_zero_iff.mp (by omega)⟩
  | n + 1, t, hn, ht => by
    by_cases ne : t = []
    · exact ⟨[], ne⟩
    · obtain ⟨w, b⟩ := best_exists h ne ht
      have bl := b.len h
      obtain ⟨l, hl⟩ := lm_exists h n (t := t.drop w.length) (by rw [List.length_drop]; omega) fun c hc => ht c (List.mem_of_mem_drop hc)
      exact ⟨w :: l, b, hl⟩

end LX

set_option maxHeartbeats 1000000
namespace LX
open PySem PySem.Spec PyProof.Rows L2 PD
local macro_rules | `(tactic| walk_at "wp") => `(tactic| simp (config := { maxSteps := 3000000 }) only [↓PD.w_callB1, ↓PD.w_fld, ↓PD.w_makeN, ↓PD.w_mth, ↓PD.w_mthS, ↓PD.w_mthD, ↓PD.w_mthB, ↓PD.w_mthX, ↓PD.w_putSame, ↓PD.w_put, ↓PD.w_put2, ↓PD.seqF_nx, ↓PD.w_seqF, ↓PD.w_fin, ↓PD.w_end, ↓PD.w_runO, ↓PD.w_makeX, ↓PD.w_runI, ↓PD.exR_ex, ↓PD.exF_ex, ↓PD.w_callO, ↓PD.coK_ok, ↓PD.coK_ex, ↓PD.w_forX, ↓PD.loopX_nx, ↓PD.loopX_ct, ↓PD.loopX_bk, ↓PD.loopX_rt, ↓PD.loopX_ex, ↓PD.w_inX, ↓PD.w_lift, ↓PD.w_seqX, ↓PD.w_ifX, ↓PD.w_callX, ↓PD.w_raise, ↓PD.w_runX, ↓PD.w_try, ↓PD.seqX_nx, ↓PD.seqX_rt, ↓PD.seqX_bk, ↓PD.seqX_ct, ↓PD.seqX_ex, ↓PD.cxK_ok, ↓PD.cxK_ex, ↓PD.outX_rt, ↓PD.outX_nx, ↓PD.outX_ex, ↓PD.tryK_fl, ↓PD.tryK_ex, ↓PD.w_enumL, ↓PD.w_inG, ↓PD.w_disp, ↓PD.w_zip, ↓PD.w_mL, ↓PD.w_keys, ↓PD.w_star, ↓PD.w_enum, ↓PD.w_var, ↓PD.w_varB, ↓PD.w_c, ↓PD.w_2, ↓PD.w_nil, ↓PD.w_cons, ↓PD.w_tup, ↓PD.w_lst, ↓PD.w_call, ↓PD.w_callB, ↓PD.w_b, ↓PD.w_nop, ↓PD.w_p, ↓PD.w_sl, ↓PD.w_rev, ↓PD.w_m, ↓PD.w_is, ↓PD.w_test, ↓PD.w_tru, ↓PD.w_notT, ↓PD.w_andT, ↓PD.w_orT, ↓PD.w_andV, ↓PD.w_notV, ↓PD.w_ifE, ↓PD.w_chain, ↓PD.w_neg, ↓PD.w_it, ↓PD.w_rng1, ↓PD.w_rng2E, ↓PD.w_lc, ↓PD.w_lc2, ↓PD.w_sortSet, ↓PD.w_sortLen, ↓PD.w_thenF, ↓PD.w_dnew, ↓PD.w_dput, ↓PD.w_aug, ↓PD.w_putI, ↓PD.w_augI, ↓PD.w_revR, ↓PD.thenK_nx, ↓PD.w_bNm, ↓PD.w_bTup, ↓PD.w_bTupP, ↓PD.w_bTupN, ↓PD.w_bCons, ↓PD.w_bNil, ↓PD.nOw_no, ↓PD.nOw_fz, ↓PD.w_yes, ↓PD.w_seq, ↓PD.w_next, ↓PD.w_bk, ↓PD.w_ct, ↓PD.w_no, ↓PD.w_if, ↓PD.w_set, ↓PD.w_setN, ↓PD.w_asg, ↓PD.w_ret, ↓PD.w_retV, ↓PD.w_retN, ↓PD.w_drop, ↓PD.w_app, ↓PD.w_ext, ↓PD.w_for, ↓PD.w_run, ↓PD.w_str, ↓PD.w_strP, ↓PD.seqK_nx, ↓PD.seqK_rt, ↓PD.seqK_bk, ↓PD.seqK_ct, ↓PD.outP_rt, ↓PD.outP_nx, ↓PD.loopK_nx, ↓PD.loopK_ct, ↓PD.loopK_bk, ↓PD.loopK_rt, ↓PD.isB_bl, ↓PD.isI_int, ↓PD.isS_str, ↓PD.pu_some, ↓PD.pu_none, ↓PD.ok_some, ↓PD.ok_none, PD.gInG_str, PD.gInX_str, PD.sdF_1, PD.sdT_1, PD.gCount_ints, PD.gMinA_lst, PD.gMaxA_lst, PD.seqD_lst, PD.seqD_tup, PD.gMul_int, PD.gMul_str, PD.gI_, PD.gI0_, PD.gAdd_int, PD.gAdd_str, PD.gAdd_tup, PD.gLt_int, PD.gLe_int, PD.gGt_int, PD.gGe_int, PD.gLen_str, PD.gLen_lst, PD.gLen_tup, PD.gAbs_, PD.gIntOf_int, PD.gIx_lst, PD.gIx_tup, PD.gIx_str, PD.gIxA_lst, PD.gIxA_tup, PD.gIxA_str, PD.gIxA_dk, PD.gIxA_dkI, PD.gInA_sign, PD.gInA_strs, PD.gNotInA_strs, PD.gInA_dk, PD.gLenA_str, PD.gLenA_lst, PD.gLenA_tup, PD.gLenA_dk, PD.gIntOf_bl, PD.gSortD_lst, PD.gTupB_lst, PD.gTupB_tup, PD.gTupB_str, PD.gGeA_int, PD.gGeA_ints, PD.gCat_, PD.gRepA_, PD.gStarts_1, PD.gStarts_3, PD.gEnds_1, PD.gEnds_4, PD.dKey_str, PD.dKey_int, PD.gSl_lst, PD.gSl_tup, PD.gSl_str, PD.gRev_lst, PD.gRev_tup, PD.gRev_str, PD.gLstA_lst, PD.gLstA_tup, PD.gLstA_str, PD.gTupA_lst, PD.gTupA_tup, PD.gAll_, PD.gAny_, PD.gSum_, PD.gSortA_strs, PD.gSortA_pairs, PD.gJoin_lst, PD.gEq_int, PD.gEq_bl, PD.gIs_non, PD.gIn_sign, PD.gIn_strs, PD.gNotIn_strs, PD.items_lst, PD.items_tup, PD.items_str, PD.rng1_, PD.rng2_, PD.dTru_bl, PD.dTru_int, PD.dTru_non, PD.dTru_tup, PD.dTru_lst, PD.dTru_str, PD.pairD, PD.isTy_int_non, PD.isTy_int_bl, PD.isTy_int_int, PD.isTy_int_str, PD.isTy_int_tup, PD.isTy_int_lst, PD.isTy_bool_non, PD.isTy_bool_bl, PD.isTy_bool_int, PD.isTy_bool_str, PD.isTy_bool_tup, PD.isTy_bool_lst, PD.isTy_str_non, PD.isTy_str_bl, PD.isTy_str_int, PD.isTy_str_str, PD.isTy_str_tup, PD.isTy_str_lst, PD.isTy_tuple_non, PD.isTy_tuple_bl, PD.isTy_tuple_int, PD.isTy_tuple_str, PD.isTy_tuple_tup, PD.isTy_tuple_lst, PD.isTy_list_non, PD.isTy_list_bl, PD.isTy_list_int, PD.isTy_list_str, PD.isTy_list_tup, PD.isTy_list_lst, PD.wipeE, PD.initE, List.length_cons, List.length_nil, List.length_map, List.map_cons, List.map_nil, List.getElem?_cons_zero, List.getElem?_cons_succ, List.getElem?_nil, List.set_cons_zero, List.set_cons_succ, List.replicate_succ, List.replicate_zero, List.cons_append, List.nil_append, Option.some.injEq, Option.bind_some, Option.map_some, Slo.fz.injEq, Slo.ow.injEq, Dat.bl.injEq, Dat.int.injEq, Dat.str.injEq, Dat.tup.injEq, Dat.lst.injEq, Dat.dk.injEq, List.cons.injEq, reduceCtorEq, exists_eq_left, exists_eq_left', exists_and_left, false_or, or_false, true_or, false_and, and_false, true_and, and_true, if_true, if_false, Bool.not_true, Bool.not_false, Bool.false_eq_true, Bool.true_eq_false, Bool.false_xor, Bool.true_xor, decide_eq_true_eq, decide_eq_false_iff_not, Nat.reduceAdd, Nat.reduceSub, Nat.reduceLT, Nat.reduceLeDiff, Nat.zero_add, Nat.zero_lt_succ, Nat.reduceEqDiff, Int.reduceEq, Int.reduceNeg, reduceIte, eq_self_iff_true, ne_eq, not_true_eq_false, not_false_eq_true, Int.reduceAdd, Int.reduceSub, Int.reduceLT, Int.reduceLE, Int.reducePow, Int.reduceToNat, Int.toNat_natCast])

/-! ### the reader -/
def Grow (ws : List (Str × Int)) (t : List Nat) : Prop := ∃ v ∈ ws.map (·.1), t.length < v.length ∧ t <+: v.cps.toList
def Gv (ws : List (Str × Int)) : List Nat → List Str → List Nat → Prop
  | t, [], r => r = t ∧ (t = [] ∨ Grow ws t)
  | t, w :: g, r => t ≠ [] ∧ ¬ Grow ws t ∧ Best ws t w ∧ Gv ws (t.drop w.length) g r
theorem gv_uniq {ws : List (Str × Int)} : ∀ {g g' : List Str} {t r r' : List Nat}, Gv ws t g r → Gv ws t g' r' → g = g' ∧ r = r'
  | [], [], t, r, r', a, b => ⟨rfl, by rw [a.1, b.1]⟩
  | [], w :: g', t, r, r', a, b => (a.2.elim (fun e => b.1 e) fun e => b.2.1 e).elim
  | w :: g', [], t, r, r', b, a => (a.2.elim (fun e => b.1 e) fun e => b.2.1 e).elim
  | v :: g, w :: g', t, r, r', a, b => by
    have e := a.2.2.1.uniq b.2.2.1
    subst e
    obtain ⟨e1, e2⟩ := gv_uniq a.2.2.2 b.2.2.2
    exact ⟨by rw [e1], e2⟩
theorem not_grow_app {ws : List (Str × Int)} {t : List Nat} (s : List Nat) (h : ¬ Grow ws t) : ¬ Grow ws (t ++ s) := by
  rintro ⟨v, hv, hl, hp⟩
  rw [List.length_append] at hl
  exact h ⟨v, hv, by omega, (List.prefix_append t s).trans hp⟩
theorem best_app {ws : List (Str × Int)} {t : List Nat} {w : Str} (s : List Nat) (h : ¬ Grow ws t) (b : Best ws t w) : Best ws (t ++ s) w := by
  refine ⟨b.mem, b.pre.trans (List.prefix_append t s), fun v hv hp => ?_⟩
  by_cases hl : v.length ≤ t.length
  · refine b.max v hv (List.prefix_of_prefix_length_le hp (List.prefix_append t s) ?_)
    rw [← len_cps]; exact hl
  · exact (h ⟨v, hv, by omega, List.prefix_of_prefix_length_le (List.prefix_append t s) hp (by rw [← len_cps]; omega)⟩).elim
theorem best_ne {ws : List (Str × Int)} (h : WL ws) {t : List Nat} {w : Str} (b : Best ws t w) : t ≠ [] := fun e => by
  have := (b.len h)
  rw [e] at this
  simp at this
  omega
theorem gv_app {ws : List (Str × Int)} (h : WL ws) : ∀ {g : List Str} {t r s : List Nat} {g' : List Str} {r' : List Nat}, Gv ws t g r → Gv ws (r ++ s) g' r' → Gv ws (t ++ s) (g ++ g') r'
  | [], t, r, s, g', r', a, b => by rw [← a.1]; exact b
  | w :: g, t, r, s, g', r', a, b => by
    refine ⟨?_, not_grow_app s a.2.1, best_app s a.2.1 a.2.2.1, ?_⟩
    · intro e
      exact a.1 (List.append_eq_nil_iff.mp e).1
    · have hl := (a.2.2.1.len h).2.2
      rw [List.drop_append_of_le_length hl]
      exact gv_app h a.2.2.2 b
theorem Gv.flat {ws : List (Str × Int)} : ∀ {g : List Str} {t r : List Nat}, Gv ws t g r → g.flatMap (·.cps.toList) ++ r = t
  | [], t, r, a => a.1
  | w :: g, t, r, a => by
    rw [List.flatMap_cons, List.append_assoc, Gv.flat a.2.2.2, len_cps]
    exact (drop_pre a.2.2.1.pre).symm
theorem Gv.mem {ws : List (Str × Int)} : ∀ {g : List Str} {t r : List Nat}, Gv ws t g r → ∀ y ∈ g, y ∈ ws.map (·.1)
  | w :: g, t, r, a, y, hy => by
    rcases List.mem_cons.mp hy with rfl | hy
    · exact a.2.2.1.mem
    · exact Gv.mem a.2.2.2 y hy
theorem Gv.few {ws : List (Str × Int)} (h : WL ws) {g : List Str} {t r : List Nat} (a : Gv ws t g r) : g.length ≤ t.length := by
  have h1 := flat_ge h a.mem
  have h2 := congrArg List.length a.flat
  rw [List.length_append] at h2
  omega
theorem Gv.held {ws : List (Str × Int)} : ∀ {g : List Str} {t r : List Nat}, Gv ws t g r → r = [] ∨ Grow ws r
  | [], t, r, a => by rw [a.1]; exact a.2
  | w :: g, t, r, a => Gv.held a.2.2.2
/-- the longest match of what is held, behind the given words -/
theorem Gv.lm {ws : List (Str × Int)} : ∀ {g : List Str} {t r : List Nat} {l : List Str}, Gv ws t g r → IsLM ws r l → IsLM ws t (g ++ l)
  | [], t, r, l, a, b => by rw [← a.1]; exact b
  | w :: g, t, r, l, a, b => ⟨a.2.2.1, Gv.lm a.2.2.2 b⟩
theorem Gv.lm_app {ws : List (Str × Int)} (h : WL ws) : ∀ {g : List Str} {t r s : List Nat} {l : List Str}, Gv ws t g r → IsLM ws (r ++ s) l → IsLM ws (t ++ s) (g ++ l)
  | [], t, r, s, l, a, b => by rw [← a.1]; exact b
  | w :: g, t, r, s, l, a, b => by
    refine ⟨best_app s a.2.1 a.2.2.1, ?_⟩
    have hl := (a.2.2.1.len h).2.2
    rw [List.drop_append_of_le_length hl]
    exact Gv.lm_app h a.2.2.2 b
/-- a word is its own longest match -/
theorem best_self {ws : List (Str × Int)} {v : Str} (hv : v ∈ ws.map (·.1)) : Best ws v.cps.toList v := ⟨hv, List.prefix_rfl, fun u _ hp => by rw [len_cps, len_cps]; exact hp.length_le⟩
theorem lm_self {ws : List (Str × Int)} {v : Str} (hv : v ∈ ws.map (·.1)) : IsLM ws v.cps.toList [v] := ⟨best_self hv, by rw [len_cps, List.drop_length]; rfl⟩
theorem grow_four {ws : List (Str × Int)} (h : WL ws) (t : List Nat) : Grow ws t ↔ ∃ v ∈ ws.map (·.1), (t.take 4).length < v.length ∧ t.take 4 <+: v.cps.toList := by
  constructor
  · rintro ⟨v, hv, hl, hp⟩
    have := (h.one' hv).2
    have e : t.take 4 = t := List.take_of_length_le (by omega)
    exact ⟨v, hv, by rw [e]; exact hl, by rw [e]; exact hp⟩
  · rintro ⟨v, hv, hl, hp⟩
    have := (h.one' hv).2
    rw [List.length_take] at hl
    have e : t.take 4 = t := List.take_of_length_le (by omega)
    rw [e] at hp
    exact ⟨v, hv, by omega, hp⟩
theorem Tx.sm' {ws : List (Str × Int)} (h : WL ws) {x y : Str} (hx : Tx ws x) (hy : ∀ c ∈ y.cps.toList, c ∈ x.cps.toList) : SmS y := fun c hc => hx.sm h c (hy c hc)
theorem starts_pre {x y : Str} : Txt.startswith x y = decide (y.cps.toList <+: x.cps.toList) := by
  have e2 : Txt.startswith3 x y ((0 : Nat) : Int) = Txt.startswith x y := rfl
  rw [← e2]
  have e : fromIndex x.length ((0 : Nat) : Int) = 0 := by
    unfold fromIndex
    rw [if_neg (by omega)]
    omega
  unfold Txt.startswith3
  rw [e, PySem.StrLaws.subAt_eq, Bool.eq_iff_iff, Bool.and_eq_true, decide_eq_true_eq, decide_eq_true_eq, beq_iff_eq, List.prefix_iff_eq_take, len_cps y, List.drop_zero]
  constructor
  · rintro ⟨_, h2⟩; exact h2.symm
  · intro h2
    refine ⟨?_, h2.symm⟩
    have := congrArg List.length h2
    rw [List.length_take, ← len_cps, ← len_cps] at this
    rw [← len_cps]
    omega
theorem cut_four (x : Str) (a : Nat) (h : a ≤ x.length) : (cutS x (some (a : Int)) (some ((a : Int) + 4))).cps.toList = (x.cps.toList.drop a).take 4 := by
  rw [show ((a : Int) + 4) = ((a + 4 : Nat) : Int) by omega]
  show (x.cps.toList.drop (HT.sIx x.length 0 (some (a : Int)))).take (HT.sIx x.length x.length (some ((a + 4 : Nat) : Int)) - HT.sIx x.length 0 (some (a : Int))) = _
  rw [HT.sIx_nat, HT.sIx_nat, Nat.min_eq_left h]
  by_cases h4 : a + 4 ≤ x.length
  · rw [Nat.min_eq_left h4, Nat.add_sub_cancel_left]
  · rw [Nat.min_eq_right (by omega), List.take_of_length_le (by rw [List.length_drop, ← len_cps]; exact Nat.le_refl _), List.take_of_length_le (by rw [List.length_drop, ← len_cps]; omega)]
theorem cut_rest (x : Str) (a : Nat) (h : a ≤ x.length) : cutS x (some (a : Int)) none = strOf (x.cps.toList.drop a) := by
  refine str_ext ?_
  show (x.cps.toList.drop (HT.sIx x.length 0 (some (a : Int)))).take (HT.sIx x.length x.length none - HT.sIx x.length 0 (some (a : Int))) = _
  rw [HT.sIx_nat, Nat.min_eq_left h, show HT.sIx x.length x.length none = x.length from rfl, strOf_cps, List.take_of_length_le]
  rw [List.length_drop, ← len_cps]
  exact Nat.le_refl _
def growB (ws : List (Str × Int)) (t : List Nat) : Bool := ws.any fun w => decide ((t.take 4).length < w.1.length ∧ t.take 4 <+: w.1.cps.toList)
theorem growB_iff {ws : List (Str × Int)} (h : WL ws) {t : List Nat} : growB ws t = true ↔ Grow ws t := by
  rw [grow_four h]
  unfold growB
  rw [List.any_eq_true]
  constructor
  · rintro ⟨w, hw, e⟩
    exact ⟨w.1, List.mem_map_of_mem hw, of_decide_eq_true e⟩
  · rintro ⟨v, hv, e⟩
    obtain ⟨w, hw, rfl⟩ := List.mem_map.mp hv
    exact ⟨w, hw, decide_eq_true e⟩
theorem may_grow_ok {ws : List (Str × Int)} {x : Str} {a : Nat} {S : Sm} (ha : a ≤ x.length) : Ok (p_may_grow [listD ws, .str x, .int a] S) fun r S' => S' = S ∧ r = .bl (growB ws (x.cps.toList.drop a)) := by
  unfold p_may_grow m_may_grow
  walk_at "wp"
  generalize er : cutS x (some (a : Int)) (some ((a : Int) + 4)) = y
  have ey : y.cps.toList = (x.cps.toList.drop a).take 4 := by rw [← er, cut_four x a ha]
  rw [items_listD]
  refine ok_lcM PD.pairD (fun w => Dat.bl (decide (y.cps.toList.length < w.1.length ∧ y.cps.toList <+: w.1.cps.toList))) ws (fun w hw => ?_) ?_
  · walk_at "wp"
    rw [← len_cps]
    refine ite_all (fun h1 => ?_) fun h1 => ?_
    · try walk_at "wp"
      rw [starts_pre]
      exact decide_eq_decide.mpr ⟨fun h2 => ⟨by omega, h2⟩, fun h2 => h2.2⟩
    · exact (decide_eq_false fun h2 => by omega).symm
  · rw [show (ws.map fun w => Dat.bl (decide (y.cps.toList.length < w.1.length ∧ y.cps.toList <+: w.1.cps.toList))) = (ws.map fun w => decide (y.cps.toList.length < w.1.length ∧ y.cps.toList <+: w.1.cps.toList)).map .bl from by rw [List.map_map]; rfl]
    walk_at "wp"
    unfold growB
    rw [← ey, List.any_map]
    rfl
theorem read_letters_ok {ws : List (Str × Int)} {x y : Str} {S : Sm} (h : WL ws) (hx : Tx ws x) (hy : Tx ws y) (hl : x.length + y.length < 1000) : Ok (p_read_letters [listD ws, .str x, .str y] S) fun r S' => S' = S ∧ ∃ (g : List Str) (z : Str), r = .tup [.lst (g.map .str), .str z] ∧ Gv ws (x.cps.toList ++ y.cps.toList) g z.cps.toList := by
  unfold p_read_letters m_read_letters
  have big : (1000 : Nat) ≤ sizeLine := by decide
  walk_at "wp"
  refine ⟨by omega, ?_⟩
  generalize et : x ++ y = t
  have etc : t.cps.toList = x.cps.toList ++ y.cps.toList := by rw [← et, cat_cps]
  have htl : t.length < 1000 := by rw [← et, str_len]; exact hl
  have ht : Tx ws t := fun c hc => by
    rw [etc] at hc
    exact (List.mem_append.mp hc).elim (hx c) (hy c)
  rw [← etc]
  refine ok_whGo (fun k env S' => S' = S ∧ ∃ (a : Nat) (g : List Str) (c : Slo), nOw c ∧ k = t.length - a ∧ a ≤ t.length ∧ g.length ≤ a ∧ (∀ g' r, Gv ws (t.cps.toList.drop a) g' r → Gv ws t.cps.toList (g ++ g') r) ∧ env = [.fz (listD ws), .fz (.str x), .fz (.str y), .fz (.str t), .ow (.lst (g.map .str)), .fz (.int a), c]) ?_ 1000 t.length _ _ (by omega) ⟨rfl, 0, [], .no, trivial, by omega, Nat.zero_le _, Nat.zero_le _, fun g' r q => q, rfl⟩
  rintro k env S' ⟨rfl, a, g, c, hc, rfl, ha, hga, hr, rfl⟩
  walk_at "wp"
  have fin : (t.cps.toList.drop a = [] ∨ Grow ws (t.cps.toList.drop a)) → ∃ (g' : List Str) (z : Str), (g.map Dat.str = g'.map Dat.str ∧ cutS t (some (a : Int)) none = z) ∧ Gv ws t.cps.toList g' z.cps.toList := fun q => by
    refine ⟨g, _, ⟨rfl, rfl⟩, ?_⟩
    rw [cut_rest t a ha, strOf_cps]
    have := hr [] _ ⟨rfl, q⟩
    rwa [List.append_nil] at this
  refine ite_all (fun hlt => ?_) fun hlt => ?_
  · have hlt : a < t.length := by omega
    refine (may_grow_ok ha).mono ?_
    rintro r0 S1 ⟨rfl, rfl⟩
    try walk_at "wp"
    by_cases hg : Grow ws (t.cps.toList.drop a)
    · rw [(growB_iff h).mpr hg]
      try walk_at "wp"
      rw [w_frzOw rfl]
      walk_at "wp"
      exact fin (.inr hg)
    · rw [Bool.not_eq_true _ |>.mp fun e => hg ((growB_iff h).mp e)]
      walk_at "wp"
      refine (find_starting_ok h).mono ?_
      rintro r0 S1 ⟨rfl, rfl⟩
      try walk_at "wp"
      have ne := at_ne ht hlt
      refine last_str ne ?_
      have b := best_at h ne
      have hb := b.len h
      rw [List.length_drop, ← len_cps] at hb
      try walk_at "wp"
      refine ⟨by omega, t.length - (a + ((at_ ws t a).getLast ne).length), by omega, a + ((at_ ws t a).getLast ne).length, g ++ [(at_ ws t a).getLast ne], .fz _, trivial, rfl, by omega, ?_, fun g' r q => ?_, ?_, ?_, rfl⟩
      · rw [List.length_append, List.length_singleton]; omega
      · rw [List.append_assoc]
        refine hr _ r ⟨?_, hg, b, ?_⟩
        · intro e
          have := congrArg List.length e
          rw [List.length_drop, ← len_cps] at this
          simp at this
          omega
        · rw [List.drop_drop]
          exact q
      · rw [List.map_append]; rfl
      · rfl
  · rw [w_frzOw rfl]
    walk_at "wp"
    exact fin (.inl (List.drop_of_length_le (by rw [← len_cps]; omega)))
theorem after_ok {ws : List (Str × Int)} {x : Str} {S : Sm} (h : WL ws) (hx : Tx ws x) (hl : x.length ≤ 30) : Ok (p_after [listD ws, .str x] S) fun r S' => S' = S ∧ ∃ (g : List Str) (z : Str), r = .tup [.tup (g.map .str), .str z] ∧ Gv ws x.cps.toList g z.cps.toList := by
  unfold p_after m_after
  walk_at "wp"
  refine (check_text_ok h hx hl).mono ?_
  rintro r S' ⟨rfl, rfl⟩
  try walk_at "wp"
  refine (read_letters_ok h (x := "") (fun c hc => by cases hc) hx (by show 0 + _ < 1000; omega)).mono ?_
  rintro r S1 ⟨rfl, g, z, rfl, hg⟩
  try walk_at "wp"
  exact ⟨g, z, ⟨rfl, rfl⟩, hg⟩

end LX

set_option maxHeartbeats 1000000
namespace LX
open PySem PySem.Spec PyProof.Rows L2 PD
local macro_rules | `(tactic| walk_at "wp") => `(tactic| simp (config := { maxSteps := 3000000 }) only [↓PD.w_callB1, ↓PD.w_fld, ↓PD.w_makeN, ↓PD.w_mth, ↓PD.w_mthS, ↓PD.w_mthD, ↓PD.w_mthB, ↓PD.w_mthX, ↓PD.w_putSame, ↓PD.w_put, ↓PD.w_put2, ↓PD.seqF_nx, ↓PD.w_seqF, ↓PD.w_fin, ↓PD.w_end, ↓PD.w_runO, ↓PD.w_makeX, ↓PD.w_runI, ↓PD.exR_ex, ↓PD.exF_ex, ↓PD.w_callO, ↓PD.coK_ok, ↓PD.coK_ex, ↓PD.w_forX, ↓PD.loopX_nx, ↓PD.loopX_ct, ↓PD.loopX_bk, ↓PD.loopX_rt, ↓PD.loopX_ex, ↓PD.w_inX, ↓PD.w_lift, ↓PD.w_seqX, ↓PD.w_ifX, ↓PD.w_callX, ↓PD.w_raise, ↓PD.w_runX, ↓PD.w_try, ↓PD.seqX_nx, ↓PD.seqX_rt, ↓PD.seqX_bk, ↓PD.seqX_ct, ↓PD.seqX_ex, ↓PD.cxK_ok, ↓PD.cxK_ex, ↓PD.outX_rt, ↓PD.outX_nx, ↓PD.outX_ex, ↓PD.tryK_fl, ↓PD.tryK_ex, ↓PD.w_enumL, ↓PD.w_inG, ↓PD.w_disp, ↓PD.w_zip, ↓PD.w_mL, ↓PD.w_keys, ↓PD.w_star, ↓PD.w_enum, ↓PD.w_var, ↓PD.w_varB, ↓PD.w_c, ↓PD.w_2, ↓PD.w_nil, ↓PD.w_cons, ↓PD.w_tup, ↓PD.w_lst, ↓PD.w_call, ↓PD.w_callB, ↓PD.w_b, ↓PD.w_nop, ↓PD.w_p, ↓PD.w_sl, ↓PD.w_rev, ↓PD.w_m, ↓PD.w_is, ↓PD.w_test, ↓PD.w_tru, ↓PD.w_notT, ↓PD.w_andT, ↓PD.w_orT, ↓PD.w_andV, ↓PD.w_notV, ↓PD.w_ifE, ↓PD.w_chain, ↓PD.w_neg, ↓PD.w_it, ↓PD.w_rng1, ↓PD.w_rng2E, ↓PD.w_lc, ↓PD.w_lc2, ↓PD.w_sortSet, ↓PD.w_sortLen, ↓PD.w_thenF, ↓PD.w_dnew, ↓PD.w_dput, ↓PD.w_aug, ↓PD.w_putI, ↓PD.w_augI, ↓PD.w_revR, ↓PD.thenK_nx, ↓PD.w_bNm, ↓PD.w_bTup, ↓PD.w_bTupP, ↓PD.w_bTupN, ↓PD.w_bCons, ↓PD.w_bNil, ↓PD.nOw_no, ↓PD.nOw_fz, ↓PD.w_yes, ↓PD.w_seq, ↓PD.w_next, ↓PD.w_bk, ↓PD.w_ct, ↓PD.w_no, ↓PD.w_if, ↓PD.w_set, ↓PD.w_setN, ↓PD.w_asg, ↓PD.w_ret, ↓PD.w_retV, ↓PD.w_retN, ↓PD.w_drop, ↓PD.w_app, ↓PD.w_ext, ↓PD.w_for, ↓PD.w_run, ↓PD.w_str, ↓PD.w_strP, ↓PD.seqK_nx, ↓PD.seqK_rt, ↓PD.seqK_bk, ↓PD.seqK_ct, ↓PD.outP_rt, ↓PD.outP_nx, ↓PD.loopK_nx, ↓PD.loopK_ct, ↓PD.loopK_bk, ↓PD.loopK_rt, ↓PD.isB_bl, ↓PD.isI_int, ↓PD.isS_str, ↓PD.pu_some, ↓PD.pu_none, ↓PD.ok_some, ↓PD.ok_none, PD.gInG_str, PD.gInX_str, PD.sdF_1, PD.sdT_1, PD.gCount_ints, PD.gMinA_lst, PD.gMaxA_lst, PD.seqD_lst, PD.seqD_tup, PD.gMul_int, PD.gMul_str, PD.gI_, PD.gI0_, PD.gAdd_int, PD.gAdd_str, PD.gAdd_tup, PD.gLt_int, PD.gLe_int, PD.gGt_int, PD.gGe_int, PD.gLen_str, PD.gLen_lst, PD.gLen_tup, PD.gAbs_, PD.gIntOf_int, PD.gIx_lst, PD.gIx_tup, PD.gIx_str, PD.gIxA_lst, PD.gIxA_tup, PD.gIxA_str, PD.gIxA_dk, PD.gIxA_dkI, PD.gInA_sign, PD.gInA_strs, PD.gNotInA_strs, PD.gInA_dk, PD.gLenA_str, PD.gLenA_lst, PD.gLenA_tup, PD.gLenA_dk, PD.gIntOf_bl, PD.gSortD_lst, PD.gTupB_lst, PD.gTupB_tup, PD.gTupB_str, PD.gGeA_int, PD.gGeA_ints, PD.gCat_, PD.gRepA_, PD.gStarts_1, PD.gStarts_3, PD.gEnds_1, PD.gEnds_4, PD.dKey_str, PD.dKey_int, PD.gSl_lst, PD.gSl_tup, PD.gSl_str, PD.gRev_lst, PD.gRev_tup, PD.gRev_str, PD.gLstA_lst, PD.gLstA_tup, PD.gLstA_str, PD.gTupA_lst, PD.gTupA_tup, PD.gAll_, PD.gAny_, PD.gSum_, PD.gSortA_strs, PD.gSortA_pairs, PD.gJoin_lst, PD.gEq_int, PD.gEq_bl, PD.gIs_non, PD.gIn_sign, PD.gIn_strs, PD.gNotIn_strs, PD.items_lst, PD.items_tup, PD.items_str, PD.rng1_, PD.rng2_, PD.dTru_bl, PD.dTru_int, PD.dTru_non, PD.dTru_tup, PD.dTru_lst, PD.dTru_str, PD.pairD, PD.isTy_int_non, PD.isTy_int_bl, PD.isTy_int_int, PD.isTy_int_str, PD.isTy_int_tup, PD.isTy_int_lst, PD.isTy_bool_non, PD.isTy_bool_bl, PD.isTy_bool_int, PD.isTy_bool_str, PD.isTy_bool_tup, PD.isTy_bool_lst, PD.isTy_str_non, PD.isTy_str_bl, PD.isTy_str_int, PD.isTy_str_str, PD.isTy_str_tup, PD.isTy_str_lst, PD.isTy_tuple_non, PD.isTy_tuple_bl, PD.isTy_tuple_int, PD.isTy_tuple_str, PD.isTy_tuple_tup, PD.isTy_tuple_lst, PD.isTy_list_non, PD.isTy_list_bl, PD.isTy_list_int, PD.isTy_list_str, PD.isTy_list_tup, PD.isTy_list_lst, PD.wipeE, PD.initE, List.length_cons, List.length_nil, List.length_map, List.map_cons, List.map_nil, List.getElem?_cons_zero, List.getElem?_cons_succ, List.getElem?_nil, List.set_cons_zero, List.set_cons_succ, List.replicate_succ, List.replicate_zero, List.cons_append, List.nil_append, Option.some.injEq, Option.bind_some, Option.map_some, Slo.fz.injEq, Slo.ow.injEq, Dat.bl.injEq, Dat.int.injEq, Dat.str.injEq, Dat.tup.injEq, Dat.lst.injEq, Dat.dk.injEq, List.cons.injEq, reduceCtorEq, exists_eq_left, exists_eq_left', exists_and_left, false_or, or_false, true_or, false_and, and_false, true_and, and_true, if_true, if_false, Bool.not_true, Bool.not_false, Bool.false_eq_true, Bool.true_eq_false, Bool.false_xor, Bool.true_xor, decide_eq_true_eq, decide_eq_false_iff_not, Nat.reduceAdd, Nat.reduceSub, Nat.reduceLT, Nat.reduceLeDiff, Nat.zero_add, Nat.zero_lt_succ, Nat.reduceEqDiff, Int.reduceEq, Int.reduceNeg, reduceIte, eq_self_iff_true, ne_eq, not_true_eq_false, not_false_eq_true, Int.reduceAdd, Int.reduceSub, Int.reduceLT, Int.reduceLE, Int.reducePow, Int.reduceToNat, Int.toNat_natCast])

/-! the drawn letters and words of the reader's laws -/
structure Lt (L : List Nat) : Prop where
  nd : L.Nodup
  az_ : ∀ c ∈ L, c ∈ az
  few : L.length ≤ 3
  some_ : 1 ≤ L.length
def letsD (L : List Nat) : Dat := .lst (L.map fun c => .str (sg c))
theorem letsD_sg (L : List Nat) : (L.map fun c => Dat.str (sg c)) = (L.map sg).map .str := by rw [List.map_map]; rfl
theorem sg_inj {a b : Nat} (h : sg a = sg b) : a = b := by
  have := congrArg (fun x : Str => x.cps.toList) h
  exact (List.cons.inj this).1
theorem mem_sg {c : Nat} {L : List Nat} : sg c ∈ L.map sg ↔ c ∈ L :=
  ⟨fun h => let ⟨_, hd, e⟩ := List.mem_map.mp h; sg_inj e ▸ hd, fun h => List.mem_map_of_mem h⟩
theorem nd_t {p : Prop} [Decidable p] (h : (!decide p) = true) : ¬ p := by simpa using h
theorem nd_f {p : Prop} [Decidable p] (h : ¬ (!decide p) = true) : p := by simpa using h
theorem azS_len : azS.cps.toList.length = 26 := rfl
theorem drawn_letters_ok {S : Sm} (g : Gd S) : Ok (p__law_letters [.strm] S) fun d S' => Gd S' ∧ ∃ L, d = letsD L ∧ Lt L := by
  unfold p__law_letters m__law_letters
  walk_at "wp"
  refine (next_ok g (by decide) (by decide)).mono ?_
  rintro d S1 ⟨g1, i, rfl, hi⟩
  walk_at "wp"
  have e1 : ((1 : Int) + (i : Int)) = ((1 + i : Nat) : Int) := by omega
  rw [e1]
  refine ⟨rng_fits (by omega), ?_⟩
  simp only [Int.toNat_natCast]
  refine ok_forN 0 (1 + i) (fun k env S => Gd S ∧ ∃ (L : List Nat) (a b : Slo), nOw a ∧ nOw b ∧ L.Nodup ∧ (∀ c ∈ L, c ∈ az) ∧ L.length ≤ k ∧ (1 ≤ k → 1 ≤ L.length) ∧ env = [.fz .strm, .fz (.str azS), .ow (letsD L), a, b]) ?_ ?_ _ _ ⟨g1, [], .no, .no, trivial, trivial, List.nodup_nil, (fun c hc => by cases hc), Nat.le_refl _, (fun h => by omega), rfl⟩
  · rintro k env S hk ⟨g, L, a, b, ha, hb, nd, haz, hl, h1, rfl⟩
    walk_at "wp"
    refine ⟨ha, ?_⟩
    refine (next_ok g (by decide) (by decide)).mono ?_
    rintro d S2 ⟨g2, j, rfl, hj⟩
    walk_at "wp"
    have hj2 : j < azS.cps.toList.length := by rw [azS_len]; omega
    refine pu_at hj2 ?_
    unfold letsD
    rw [letsD_sg]
    walk_at "wp"
    refine ite_all (fun h2 => ?_) fun h2 => ?_
    · have h2 : ¬ sg (azS.cps.toList[j]) ∈ L.map sg := nd_t h2
      rw [mem_sg] at h2
      refine ⟨by omega, g2, L ++ [azS.cps.toList[j]], .fz _, trivial, .fz _, trivial, ?_, ?_, ?_, ?_, ?_, rfl, rfl⟩
      · rw [List.nodup_append]
        exact ⟨nd, List.nodup_cons.mpr ⟨List.not_mem_nil, List.nodup_nil⟩, fun a ha b hb e => h2 (by rw [← List.mem_singleton.mp hb, ← e]; exact ha)⟩
      · intro c hc
        rcases List.mem_append.mp hc with h | h
        · exact haz c h
        · rw [List.mem_singleton.mp h]; exact List.getElem_mem _
      · rw [List.length_append, List.length_singleton]; omega
      · intro _; rw [List.length_append, List.length_singleton]; omega
      · rw [letsD_sg, List.map_append, List.map_append]
        rfl
    · have h2 : sg (azS.cps.toList[j]) ∈ L.map sg := nd_f h2
      rw [mem_sg] at h2
      exact ⟨g2, L, .fz _, trivial, .fz _, trivial, nd, haz, by omega, (fun _ => List.length_pos_of_mem h2), by rw [letsD_sg], rfl, rfl⟩
  · rintro env S ⟨g, L, a, b, ha, hb, nd, haz, hl, h1, rfl⟩
    walk_at "wp"
    exact ⟨g, L, rfl, nd, haz, by omega, h1 (by omega)⟩
theorem drawn_string_ok {S : Sm} {L : List Nat} {most : Nat} (g : Gd S) (hL : Lt L) (m1 : most ≤ 100) : Ok (p__law_string [.strm, letsD L, .int most] S) fun d S' => Gd S' ∧ ∃ x, d = .str x ∧ (∀ c ∈ x.cps.toList, c ∈ L) ∧ x.length ≤ most := by
  unfold p__law_string m__law_string
  walk_at "wp"
  refine (next_ok g (by omega) (by omega)).mono ?_
  rintro d S1 ⟨g1, i, rfl, hi⟩
  walk_at "wp"
  refine ⟨rng_fits (by omega), ?_⟩
  have h1 := hL.few
  have h0 := hL.some_
  unfold rngD
  refine (ok_lcD Gd (fun k : Nat => Dat.int (0 + k)) (fun c => Dat.str (sg c)) (fun _ c => c ∈ L) _ S1 g1 fun a ha S g => ?_).mono ?_
  · unfold letsD
    walk_at "wp"
    refine (next_ok g (by omega) (by omega)).mono ?_
    rintro d S2 ⟨g2, n, rfl, hn⟩
    rw [gIxA_lst]
    refine pu_at (by rw [List.length_map]; omega) ?_
    rw [List.getElem_map]
    exact ⟨g2, _, rfl, List.getElem_mem _⟩
  · rintro w S2 ⟨g2, cs, rfl, t⟩
    have hl := t.len
    rw [List.length_range] at hl
    rw [letsD_sg, gJoin_E (by rw [flat_sg]; omega), flat_sg]
    exact ⟨g2, _, rfl, (fun c hc => let ⟨_, _, h⟩ := t.mem c hc; h), by rw [strOf_len]; omega⟩
/-- the names of a drawn list -/
structure Ns (L : List Nat) (ns : List Str) : Prop where
  nd : ns.Nodup
  few : ns.length ≤ 8
  at_ : ∀ y ∈ ns, 1 ≤ y.length ∧ y.length ≤ 4 ∧ ∀ c ∈ y.cps.toList, c ∈ L
  has : ∀ c ∈ L, sg c ∈ ns
theorem mem_sortS {xs : List Str} {y : Str} : y ∈ sortS xs ↔ y ∈ xs := by
  unfold sortS
  exact (List.mergeSort_perm _ _).mem_iff
theorem sortS_lt {xs : List Str} (h : xs.Nodup) : (sortS xs).Pairwise fun a b => a.cps.toList < b.cps.toList := by
  have := sortSet_lt xs
  have e : metS xs = xs := metS_nodup xs [] h
  rwa [e] at this
theorem al_map {α β : Type} {R : α → β → Prop} {f : β → α} (hf : ∀ a b, R a b → f b = a) : ∀ {as : List α} {bs : List β}, Al R as bs → bs.map f = as
  | _, _, .nil => rfl
  | _, _, .cons h t => by rw [List.map_cons, hf _ _ h, al_map hf t]
theorem drawn_words_ok {S : Sm} {L : List Nat} (g : Gd S) (hL : Lt L) : Ok (p__law_words [.strm, letsD L] S) fun d S' => Gd S' ∧ ∃ ws, d = listD ws ∧ WL ws ∧ ∀ c, c ∈ lets ws ↔ c ∈ L := by
  unfold p__law_words m__law_words
  have h3 := hL.few
  have h0 := hL.some_
  unfold letsD
  walk_at "wp"
  refine (next_ok g (by decide) (by decide)).mono ?_
  rintro d S1 ⟨g1, i, rfl, hi⟩
  walk_at "wp"
  refine ⟨rng_fits (by omega), ?_⟩
  refine ok_forN 0 i (fun _ env S => Gd S ∧ ∃ (ns : List Str) (a b : Slo), nOw a ∧ nOw b ∧ Ns L ns ∧ env = [.fz .strm, .fz (letsD L), .ow (.lst (ns.map .str)), a, b, .no]) ?_ ?_ _ _ ⟨g1, L.map sg, .no, .no, trivial, trivial, ⟨?_, by rw [List.length_map]; omega, fun y hy => ?_, fun c hc => List.mem_map_of_mem hc⟩, by rw [← letsD_sg]; rfl⟩
  · rintro k env S hk ⟨g, ns, a, b, ha, hb, hn, rfl⟩
    unfold letsD
    walk_at "wp"
    refine ⟨ha, ?_⟩
    refine (next_ok g (by decide) (by decide)).mono ?_
    rintro d S2 ⟨g2, j, rfl, hj⟩
    walk_at "wp"
    have e1 : ((2 : Int) + (j : Int)) = ((2 + j : Nat) : Int) := by omega
    rw [e1]
    refine ⟨rng_fits (by omega), ?_⟩
    simp only [Int.toNat_natCast]
    unfold rngD
    refine (ok_lcD Gd (fun k : Nat => Dat.int (0 + k)) (fun c => Dat.str (sg c)) (fun _ c => c ∈ L) _ S2 g2 fun a ha S g => ?_).mono ?_
    · walk_at "wp"
      refine (next_ok g (by omega) (by omega)).mono ?_
      rintro d S2 ⟨g2, n, rfl, hn⟩
      rw [gIxA_lst]
      refine pu_at (by rw [List.length_map]; omega) ?_
      rw [List.getElem_map]
      exact ⟨g2, _, rfl, List.getElem_mem _⟩
    · rintro w S3 ⟨g3, cs, rfl, t⟩
      have hl := t.len
      rw [List.length_range] at hl
      have hcs : ∀ c ∈ cs, c ∈ L := fun c hc => let ⟨_, _, h⟩ := t.mem c hc; h
      rw [letsD_sg, gJoin_E (by rw [flat_sg]; omega), flat_sg]
      walk_at "wp"
      have hsl : (strOf cs).length = 2 + j := by rw [strOf_len]; omega
      refine ite_all (fun h1 => ?_) fun _ => ⟨g3, ns, .fz _, trivial, .fz _, trivial, hn, rfl, rfl, rfl⟩
      have h1 := nd_t h1
      refine ite_all (fun h2 => ?_) fun _ => ⟨g3, ns, .fz _, trivial, .fz _, trivial, hn, rfl, rfl, rfl⟩
      refine ⟨by omega, g3, ns ++ [strOf cs], .fz _, trivial, .fz _, trivial, ⟨?_, ?_, fun y hy => ?_, fun c hc => List.mem_append_left _ (hn.has c hc)⟩, by rw [List.map_append]; rfl, rfl, rfl⟩
      · rw [List.nodup_append]
        exact ⟨hn.nd, List.nodup_cons.mpr ⟨List.not_mem_nil, List.nodup_nil⟩, fun a ha b hb e => h1 (by rw [← List.mem_singleton.mp hb, ← e]; exact ha)⟩
      · rw [List.length_append, List.length_singleton]; omega
      · rcases List.mem_append.mp hy with hy | hy
        · exact hn.at_ y hy
        · rw [List.mem_singleton.mp hy]
          exact ⟨by omega, by omega, hcs⟩
  · rintro env S ⟨g, ns, a, b, ha, hb, hn, rfl⟩
    walk_at "wp"
    rw [w_frzOw rfl]
    have h8 := hn.few
    walk_at "wp"
    refine ⟨by omega, ?_⟩
    refine (ok_lcD Gd Dat.str PD.pairD (fun x w => w.1 = x ∧ 1 ≤ w.2 ∧ w.2 ≤ 9) _ S g fun a ha S g => ?_).mono ?_
    · walk_at "wp"
      refine (next_ok g (by decide) (by decide)).mono ?_
      rintro d S2 ⟨g2, n, rfl, hn⟩
      walk_at "wp"
      exact ⟨g2, (a, 1 + (n : Int)), ⟨rfl, rfl⟩, rfl, by show (1 : Int) ≤ 1 + (n : Int); omega, by show 1 + (n : Int) ≤ 9; omega⟩
    · rintro w S3 ⟨g3, zs, rfl, t⟩
      have e1 : zs.map (·.1) = sortS ns := al_map (fun a b h => h.1) t
      have mz : ∀ y, y ∈ zs.map (·.1) ↔ y ∈ ns := fun y => by rw [e1, mem_sortS]
      try walk_at "wp"
      have hW : WL zs := by
        refine ⟨?_, fun w hw => ?_, ?_, fun w hw c hc => ?_⟩
        · have : zs.length = ns.length := by
            have := congrArg List.length e1
            unfold sortS at this
            rwa [List.length_map, (List.mergeSort_perm _ _).length_eq] at this
          obtain ⟨c, hc⟩ := List.exists_mem_of_length_pos h0
          have := List.length_pos_of_mem (hn.has c hc)
          omega
        · obtain ⟨_, _, h⟩ := t.mem w hw
          obtain ⟨k1, k2, k3⟩ := hn.at_ w.1 ((mz _).mp (List.mem_map_of_mem hw))
          exact ⟨wordB_iff.mpr ⟨⟨k1, k2⟩, fun c hc => hL.az_ c (k3 c hc)⟩, h.2⟩
        · rw [e1]; exact sortS_lt hn.nd
        · exact (mz _).mpr (hn.has c ((hn.at_ w.1 ((mz _).mp (List.mem_map_of_mem hw))).2.2 c hc))
      refine ⟨g3, zs, rfl, hW, fun c => ?_⟩
      rw [mem_lets, mz]
      exact ⟨fun h => (hn.at_ _ h).2.2 c (by rw [sg_cps]; exact List.mem_singleton_self _), hn.has c⟩
  · exact List.pairwise_map.mpr (hL.nd.imp fun {a b} h e => h (sg_inj e))
  · obtain ⟨c, hc, rfl⟩ := List.mem_map.mp hy
    exact ⟨Nat.le_refl _, (by decide : 1 ≤ 4), fun k hk => by rw [sg_cps, List.mem_singleton] at hk; rw [hk]; exact hc⟩

end LX

set_option maxHeartbeats 1000000
namespace LX
open PySem PySem.Spec PyProof.Rows L2 PD
local macro_rules | `(tactic| walk_at "wp") => `(tactic| simp (config := { maxSteps := 3000000 }) only [↓PD.w_callB1, ↓PD.w_fld, ↓PD.w_makeN, ↓PD.w_mth, ↓PD.w_mthS, ↓PD.w_mthD, ↓PD.w_mthB, ↓PD.w_mthX, ↓PD.w_putSame, ↓PD.w_put, ↓PD.w_put2, ↓PD.seqF_nx, ↓PD.w_seqF, ↓PD.w_fin, ↓PD.w_end, ↓PD.w_runO, ↓PD.w_makeX, ↓PD.w_runI, ↓PD.exR_ex, ↓PD.exF_ex, ↓PD.w_callO, ↓PD.coK_ok, ↓PD.coK_ex, ↓PD.w_forX, ↓PD.loopX_nx, ↓PD.loopX_ct, ↓PD.loopX_bk, ↓PD.loopX_rt, ↓PD.loopX_ex, ↓PD.w_inX, ↓PD.w_lift, ↓PD.w_seqX, ↓PD.w_ifX, ↓PD.w_callX, ↓PD.w_raise, ↓PD.w_runX, ↓PD.w_try, ↓PD.seqX_nx, ↓PD.seqX_rt, ↓PD.seqX_bk, ↓PD.seqX_ct, ↓PD.seqX_ex, ↓PD.cxK_ok, ↓PD.cxK_ex, ↓PD.outX_rt, ↓PD.outX_nx, ↓PD.outX_ex, ↓PD.tryK_fl, ↓PD.tryK_ex, ↓PD.w_enumL, ↓PD.w_inG, ↓PD.w_disp, ↓PD.w_zip, ↓PD.w_mL, ↓PD.w_keys, ↓PD.w_star, ↓PD.w_enum, ↓PD.w_var, ↓PD.w_varB, ↓PD.w_c, ↓PD.w_2, ↓PD.w_nil, ↓PD.w_cons, ↓PD.w_tup, ↓PD.w_lst, ↓PD.w_call, ↓PD.w_callB, ↓PD.w_b, ↓PD.w_nop, ↓PD.w_p, ↓PD.w_sl, ↓PD.w_rev, ↓PD.w_m, ↓PD.w_is, ↓PD.w_test, ↓PD.w_tru, ↓PD.w_notT, ↓PD.w_andT, ↓PD.w_orT, ↓PD.w_andV, ↓PD.w_notV, ↓PD.w_ifE, ↓PD.w_chain, ↓PD.w_neg, ↓PD.w_it, ↓PD.w_rng1, ↓PD.w_rng2E, ↓PD.w_lc, ↓PD.w_lc2, ↓PD.w_sortSet, ↓PD.w_sortLen, ↓PD.w_thenF, ↓PD.w_dnew, ↓PD.w_dput, ↓PD.w_aug, ↓PD.w_putI, ↓PD.w_augI, ↓PD.w_revR, ↓PD.thenK_nx, ↓PD.w_bNm, ↓PD.w_bTup, ↓PD.w_bTupP, ↓PD.w_bTupN, ↓PD.w_bCons, ↓PD.w_bNil, ↓PD.nOw_no, ↓PD.nOw_fz, ↓PD.w_yes, ↓PD.w_seq, ↓PD.w_next, ↓PD.w_bk, ↓PD.w_ct, ↓PD.w_no, ↓PD.w_if, ↓PD.w_set, ↓PD.w_setN, ↓PD.w_asg, ↓PD.w_ret, ↓PD.w_retV, ↓PD.w_retN, ↓PD.w_drop, ↓PD.w_app, ↓PD.w_ext, ↓PD.w_for, ↓PD.w_run, ↓PD.w_str, ↓PD.w_strP, ↓PD.seqK_nx, ↓PD.seqK_rt, ↓PD.seqK_bk, ↓PD.seqK_ct, ↓PD.outP_rt, ↓PD.outP_nx, ↓PD.loopK_nx, ↓PD.loopK_ct, ↓PD.loopK_bk, ↓PD.loopK_rt, ↓PD.isB_bl, ↓PD.isI_int, ↓PD.isS_str, ↓PD.pu_some, ↓PD.pu_none, ↓PD.ok_some, ↓PD.ok_none, PD.gInG_str, PD.gInX_str, PD.sdF_1, PD.sdT_1, PD.gCount_ints, PD.gMinA_lst, PD.gMaxA_lst, PD.seqD_lst, PD.seqD_tup, PD.gMul_int, PD.gMul_str, PD.gI_, PD.gI0_, PD.gAdd_int, PD.gAdd_str, PD.gAdd_tup, PD.gLt_int, PD.gLe_int, PD.gGt_int, PD.gGe_int, PD.gLen_str, PD.gLen_lst, PD.gLen_tup, PD.gAbs_, PD.gIntOf_int, PD.gIx_lst, PD.gIx_tup, PD.gIx_str, PD.gIxA_lst, PD.gIxA_tup, PD.gIxA_str, PD.gIxA_dk, PD.gIxA_dkI, PD.gInA_sign, PD.gInA_strs, PD.gNotInA_strs, PD.gInA_dk, PD.gLenA_str, PD.gLenA_lst, PD.gLenA_tup, PD.gLenA_dk, PD.gIntOf_bl, PD.gSortD_lst, PD.gTupB_lst, PD.gTupB_tup, PD.gTupB_str, PD.gGeA_int, PD.gGeA_ints, PD.gCat_, PD.gRepA_, PD.gStarts_1, PD.gStarts_3, PD.gEnds_1, PD.gEnds_4, PD.dKey_str, PD.dKey_int, PD.gSl_lst, PD.gSl_tup, PD.gSl_str, PD.gRev_lst, PD.gRev_tup, PD.gRev_str, PD.gLstA_lst, PD.gLstA_tup, PD.gLstA_str, PD.gTupA_lst, PD.gTupA_tup, PD.gAll_, PD.gAny_, PD.gSum_, PD.gSortA_strs, PD.gSortA_pairs, PD.gJoin_lst, PD.gEq_int, PD.gEq_bl, PD.gIs_non, PD.gIn_sign, PD.gIn_strs, PD.gNotIn_strs, PD.items_lst, PD.items_tup, PD.items_str, PD.rng1_, PD.rng2_, PD.dTru_bl, PD.dTru_int, PD.dTru_non, PD.dTru_tup, PD.dTru_lst, PD.dTru_str, PD.pairD, PD.isTy_int_non, PD.isTy_int_bl, PD.isTy_int_int, PD.isTy_int_str, PD.isTy_int_tup, PD.isTy_int_lst, PD.isTy_bool_non, PD.isTy_bool_bl, PD.isTy_bool_int, PD.isTy_bool_str, PD.isTy_bool_tup, PD.isTy_bool_lst, PD.isTy_str_non, PD.isTy_str_bl, PD.isTy_str_int, PD.isTy_str_str, PD.isTy_str_tup, PD.isTy_str_lst, PD.isTy_tuple_non, PD.isTy_tuple_bl, PD.isTy_tuple_int, PD.isTy_tuple_str, PD.isTy_tuple_tup, PD.isTy_tuple_lst, PD.isTy_list_non, PD.isTy_list_bl, PD.isTy_list_int, PD.isTy_list_str, PD.isTy_list_tup, PD.isTy_list_lst, PD.wipeE, PD.initE, List.length_cons, List.length_nil, List.length_map, List.map_cons, List.map_nil, List.getElem?_cons_zero, List.getElem?_cons_succ, List.getElem?_nil, List.set_cons_zero, List.set_cons_succ, List.replicate_succ, List.replicate_zero, List.cons_append, List.nil_append, Option.some.injEq, Option.bind_some, Option.map_some, Slo.fz.injEq, Slo.ow.injEq, Dat.bl.injEq, Dat.int.injEq, Dat.str.injEq, Dat.tup.injEq, Dat.lst.injEq, Dat.dk.injEq, List.cons.injEq, reduceCtorEq, exists_eq_left, exists_eq_left', exists_and_left, false_or, or_false, true_or, false_and, and_false, true_and, and_true, if_true, if_false, Bool.not_true, Bool.not_false, Bool.false_eq_true, Bool.true_eq_false, Bool.false_xor, Bool.true_xor, decide_eq_true_eq, decide_eq_false_iff_not, Nat.reduceAdd, Nat.reduceSub, Nat.reduceLT, Nat.reduceLeDiff, Nat.zero_add, Nat.zero_lt_succ, Nat.reduceEqDiff, Int.reduceEq, Int.reduceNeg, reduceIte, eq_self_iff_true, ne_eq, not_true_eq_false, not_false_eq_true, Int.reduceAdd, Int.reduceSub, Int.reduceLT, Int.reduceLE, Int.reducePow, Int.reduceToNat, Int.toNat_natCast])

theorem nm_sm {ws : List (Str × Int)} (h : WL ws) {y : Str} (hy : y ∈ ws.map (·.1)) : SmS y := by
  obtain ⟨w, hw, rfl⟩ := List.mem_map.mp hy
  exact wordB_sm (h.ent w hw).1
theorem okE_tupS {k : Nat} {xs : List Str} (hl : xs.length ≤ 1000) (hx : ∀ z ∈ xs, SmS z) : okE (k + 2) (.tup (xs.map .str)) := by
  refine ⟨by rw [List.length_map]; omega, fun e he => ?_⟩
  obtain ⟨z, hz, rfl⟩ := List.mem_map.mp he
  exact hx z hz
/-! the law's own reader -/
theorem pre_iff {x y : Str} : pre x y.length = y ↔ y.cps.toList <+: x.cps.toList := by
  rw [List.prefix_iff_eq_take, ← len_cps]
  exact ⟨fun h => (congrArg (fun z : Str => z.cps.toList) h).symm, fun h => str_ext h.symm⟩
theorem Tx.strOf {ws : List (Str × Int)} {t : List Nat} (h : ∀ c ∈ t, c ∈ lets ws) : Tx ws (PD.strOf t) := h
/-- the best one among the first words of the list -/
structure BestOf (ws pre : List (Str × Int)) (t : List Nat) (b : Str) : Prop where
  mem : b ∈ ws.map (·.1)
  pre_ : b.cps.toList <+: t
  max : ∀ v ∈ pre.map (·.1), v.cps.toList <+: t → v.length ≤ b.length
theorem law_longest_ok {ws : List (Str × Int)} {x : Str} {S : Sm} (h : WL ws) (hx : Tx ws x) (hl : x.length ≤ 1000) : Ok (p__law_longest [listD ws, .str x] S) fun r S' => S' = S ∧ ∃ l : List Str, r = .lst (l.map .str) ∧ IsLM ws x.cps.toList l := by
  unfold p__law_longest m__law_longest
  walk_at "wp"
  refine ⟨rng_fits hl, ?_⟩
  refine ok_forN 0 x.length (fun k env S' => S' = S ∧ ∃ (l : List Str) (y : Str) (a b c d : Slo), nOw a ∧ nOw b ∧ nOw c ∧ nOw d ∧ Tx ws y ∧ y.length + k ≤ x.length ∧ l.length ≤ k ∧ (∀ r, IsLM ws y.cps.toList r → IsLM ws x.cps.toList (l ++ r)) ∧ env = [.fz (listD ws), .fz (.str x), .ow (.lst (l.map .str)), .fz (.str y), a, b, c, d]) ?_ ?_ _ _ ⟨rfl, [], x, .no, .no, .no, .no, trivial, trivial, trivial, trivial, hx, Nat.le_refl _, Nat.le_refl _, fun r q => q, rfl⟩
  · rintro k env S' hk ⟨rfl, l, y, a, b, c, d, ha, hb, hc, hd, hy, hyl, hll, hr, rfl⟩
    walk_at "wp"
    refine ⟨ha, ?_⟩
    rw [gEq_str (hy.sm h) (fun c hc => by cases hc)]
    walk_at "wp"
    refine ite_all (fun h1 => ?_) fun h1 => ?_
    · subst h1
      have := hr [] rfl
      rw [List.append_nil] at this
      exact ⟨l, rfl, this⟩
    · have h0 : 0 < y.cps.toList.length := by
        rw [List.length_pos_iff]
        exact fun e => h1 (str_ext (by rw [e]; rfl))
      rw [show ((0 : Int)) = ((0 : Nat) : Int) from rfl]
      refine pu_at h0 ?_
      rw [items_listD]
      have hy0 : (y.cps.toList[0]) ∈ lets ws := hy _ (List.getElem_mem h0)
      refine ok_forL PD.pairD ws (fun p env S'' => S'' = S' ∧ ∃ (u : Str) (c d : Slo), nOw c ∧ nOw d ∧ BestOf ws p y.cps.toList u ∧ env = [.fz (listD ws), .fz (.str x), .ow (.lst (l.map .str)), .fz (.str y), .fz (.int k), .fz (.str u), c, d]) ?_ ?_ _ _ ⟨rfl, sg (y.cps.toList[0]), c, d, hc, hd, ⟨mem_lets.mp hy0, ?_, fun v hv => by cases hv⟩, rfl⟩
      · rintro p w post env S'' e ⟨rfl, u, c, d, hc, hd, hb, rfl⟩
        have hw : w ∈ ws := by rw [e]; exact List.mem_append_right _ List.mem_cons_self
        walk_at "wp"
        refine ⟨hc, hd, ?_⟩
        rw [cutS_pre, gEq_str (Tx.sm (hy.pre _) h) ((Tx.word h hw).sm h)]
        walk_at "wp"
        refine ite_all (fun h2 => ?_) fun h2 => ?_
        · refine ite_all (fun h3 => ?_) fun h3 => ?_
          · refine ⟨w.1, .fz _, trivial, .fz _, trivial, ⟨List.mem_map_of_mem hw, pre_iff.mp h2, fun v hv hp => ?_⟩, rfl, rfl, rfl⟩
            rw [List.map_append] at hv
            rcases List.mem_append.mp hv with hv | hv
            · have := hb.max v hv hp; omega
            · rw [List.mem_singleton.mp hv]; exact Nat.le_refl _
          · refine ⟨u, .fz _, trivial, .fz _, trivial, ⟨hb.mem, hb.pre_, fun v hv hp => ?_⟩, rfl, rfl, rfl⟩
            rw [List.map_append] at hv
            rcases List.mem_append.mp hv with hv | hv
            · exact hb.max v hv hp
            · rw [List.mem_singleton.mp hv]; show w.1.length ≤ _; omega
        · refine ⟨u, .fz _, trivial, .fz _, trivial, ⟨hb.mem, hb.pre_, fun v hv hp => ?_⟩, rfl, rfl, rfl⟩
          rw [List.map_append] at hv
          rcases List.mem_append.mp hv with hv | hv
          · exact hb.max v hv hp
          · rw [List.mem_singleton.mp hv] at hp
            exact (h2 (pre_iff.mpr hp)).elim
      · rintro env S'' ⟨rfl, u, c, d, hc, hd, hb, rfl⟩
        have b : Best ws y.cps.toList u := ⟨hb.mem, hb.pre_, hb.max⟩
        have bl := b.len h
        rw [← len_cps] at bl
        walk_at "wp"
        refine ⟨by omega, l ++ [u], PD.strOf (y.cps.toList.drop u.length), .fz _, trivial, .fz _, trivial, c, hc, d, hd, fun k hk => hy k (List.mem_of_mem_drop hk), ?_, ?_, fun r q => ?_, ?_, ?_, rfl, rfl, rfl, rfl⟩
        · rw [strOf_len, List.length_drop, ← len_cps]; omega
        · rw [List.length_append, List.length_singleton]; omega
        · rw [List.append_assoc]
          exact hr _ ⟨b, q⟩
        · rw [List.map_append]; rfl
        · exact cut_rest y _ bl.2.2
      · rw [sg_cps]
        refine ⟨y.cps.toList.drop 1, ?_⟩
        exact (List.drop_eq_getElem_cons h0).symm
  · rintro env S' ⟨rfl, l, y, a, b, c, d, ha, hb, hc, hd, hy, hyl, hll, hr, rfl⟩
    walk_at "wp"
    have ey : y.cps.toList = [] := List.length_eq_zero_iff.mp (by rw [← len_cps]; omega)
    have := hr [] ey
    rw [List.append_nil] at this
    exact ⟨l, rfl, this⟩
/-- the words that are longer than t and begin with it -/
def exts (ws : List (Str × Int)) (t : List Nat) : List Str := (ws.map (·.1)).filter fun v => decide (t.length < v.length ∧ t <+: v.cps.toList)
theorem mem_exts {ws : List (Str × Int)} {t : List Nat} {v : Str} : v ∈ exts ws t ↔ v ∈ ws.map (·.1) ∧ t.length < v.length ∧ t <+: v.cps.toList := by
  unfold exts
  rw [List.mem_filter, decide_eq_true_eq]
theorem grow_exts {ws : List (Str × Int)} {t : List Nat} : Grow ws t ↔ exts ws t ≠ [] := by
  constructor
  · rintro ⟨v, hv, h⟩
    exact List.ne_nil_of_mem (mem_exts.mpr ⟨hv, h⟩)
  · intro h
    obtain ⟨v, hv⟩ := List.exists_mem_of_ne_nil _ h
    obtain ⟨h1, h2⟩ := mem_exts.mp hv
    exact ⟨v, h1, h2⟩
theorem law_extending_ok {ws : List (Str × Int)} {y : Str} {S : Sm} (h : WL ws) (hy : Tx ws y) : Ok (p__law_extending [listD ws, .str y] S) fun r S' => S' = S ∧ r = .lst ((exts ws y.cps.toList).map .str) := by
  unfold p__law_extending m__law_extending
  walk_at "wp"
  rw [items_listD]
  refine ok_lcP PD.pairD (fun w => decide (y.cps.toList.length < w.1.length ∧ y.cps.toList <+: w.1.cps.toList)) (fun w => Dat.str w.1) ws (fun w hw => ?_) ?_
  · walk_at "wp"
    rw [cutS_pre, gEq_str (Tx.sm ((Tx.word h hw).pre _) h) (hy.sm h)]
    walk_at "wp"
    rw [← len_cps]
    refine ite_all (fun h2 => ?_) fun h2 => ?_
    · exact ⟨decide_eq_decide.mpr ⟨fun h3 => ⟨by omega, pre_iff.mp h3⟩, fun h3 => pre_iff.mpr h3.2⟩, fun _ => trivial⟩
    · exact ⟨(decide_eq_false fun h3 => by omega).symm, fun _ => trivial⟩
  · unfold exts
    rw [List.filter_map, List.map_map]
    exact ⟨rfl, rfl⟩
theorem tru_strs (xs : List Str) : (!(xs.map Dat.str).isEmpty) = decide (xs ≠ []) := by
  cases xs <;> rfl
theorem law_after_ok {ws : List (Str × Int)} {x : Str} {S : Sm} (h : WL ws) (hx : Tx ws x) (hl : x.length ≤ 400) : Ok (p__law_after [listD ws, .str x] S) fun r S' => S' = S ∧ ∃ (g : List Str) (z : Str), r = .tup [.lst (g.map .str), .str z] ∧ Gv ws x.cps.toList g z.cps.toList := by
  unfold p__law_after m__law_after
  have big : (1000 : Nat) ≤ sizeLine := by decide
  walk_at "wp"
  rw [signs_sg]
  refine ok_forL (fun c => Dat.str (sg c)) x.cps.toList (fun p env S' => S' = S ∧ ∃ (g : List Str) (z : Str) (a b c : Slo), nOw a ∧ nOw b ∧ nOw c ∧ Gv ws p g z.cps.toList ∧ env = [.fz (listD ws), .fz (.str x), .ow (.lst (g.map .str)), .fz (.str z), a, b, c]) ?_ ?_ _ _ ⟨rfl, [], "", .no, .no, .no, trivial, trivial, trivial, ⟨rfl, .inl rfl⟩, rfl⟩
  · rintro p ch post env S' e ⟨rfl, g, z, a, b, c, ha, hb, hc, hg, rfl⟩
    have hp : ∀ k ∈ p ++ [ch], k ∈ lets ws := fun k hk => hx k (by
      rw [e]
      rcases List.mem_append.mp hk with hk | hk
      · exact List.mem_append_left _ hk
      · rw [List.mem_singleton.mp hk]; exact List.mem_append_right _ List.mem_cons_self)
    have hpl : (p ++ [ch]).length ≤ 400 := by
      have := congrArg List.length e
      rw [← len_cps, List.length_append, List.length_cons] at this
      rw [List.length_append, List.length_singleton]
      omega
    have hz : (z.cps.toList ++ [ch]).length ≤ (p ++ [ch]).length := by
      have := congrArg List.length hg.flat
      rw [List.length_append] at this
      rw [List.length_append, List.length_append]
      omega
    have hzl : (z ++ sg ch).length = (z.cps.toList ++ [ch]).length := by rw [len_cps, cat_cps, sg_cps]
    have hz1 : z.length + (sg ch).length = (z.cps.toList ++ [ch]).length := by rw [← hzl, str_len]
    walk_at "wp"
    refine ⟨ha, by omega, ?_⟩
    refine ⟨rng_fits (by omega), ?_⟩
    have hzx : ∀ k ∈ (z ++ sg ch).cps.toList, k ∈ lets ws := fun k hk => by
      rw [cat_cps, sg_cps] at hk
      rcases List.mem_append.mp hk with hk | hk
      · refine hp k (List.mem_append_left _ ?_)
        rw [← hg.flat]
        exact List.mem_append_right _ hk
      · exact hp k (List.mem_append_right _ hk)
    generalize ezz : z ++ sg ch = zz at *
    have ezc : zz.cps.toList = z.cps.toList ++ [ch] := by rw [← ezz, cat_cps, sg_cps]
    refine ok_forN 0 zz.length (fun k env S'' => S'' = S' ∧ ∃ (l : List Str) (y : Str) (b c : Slo), nOw b ∧ nOw c ∧ (∀ k ∈ y.cps.toList, k ∈ lets ws) ∧ y.length + k ≤ zz.length ∧ l.length ≤ g.length + k ∧ (∀ g' r, Gv ws y.cps.toList g' r → Gv ws (p ++ [ch]) (l ++ g') r) ∧ env = [.fz (listD ws), .fz (.str x), .ow (.lst (l.map .str)), .fz (.str y), .fz (.str (sg ch)), b, c]) ?_ ?_ _ _ ⟨rfl, g, zz, b, c, hb, hc, hzx, Nat.le_refl _, Nat.le_refl _, fun g' r q => gv_app h hg (by rw [← ezc]; exact q), rfl⟩
    · rintro k env S'' hk ⟨rfl, l, y, b, c, hb, hc, hy, hyl, hll, hr, rfl⟩
      have fin : (y.cps.toList = [] ∨ Grow ws y.cps.toList) → Gv ws (p ++ [ch]) l y.cps.toList := fun q => by
        have := hr [] _ ⟨rfl, q⟩
        rwa [List.append_nil] at this
      walk_at "wp"
      refine ⟨hb, ?_⟩
      rw [gEq_str (Tx.sm hy h) (fun c hc => by cases hc)]
      walk_at "wp"
      refine ite_all (fun h1 => ?_) fun h1 => ?_
      · refine ⟨l, y, .fz _, trivial, .fz _, trivial, c, hc, fin (.inl (by rw [h1]; rfl)), rfl, rfl, rfl, rfl, rfl⟩
      refine (law_extending_ok h hy).mono ?_
      rintro r S1 ⟨rfl, rfl⟩
      rw [dTru_lst, pu_some, tru_strs]
      refine ite_all (fun h2 => ?_) fun h2 => ?_
      · exact ⟨rfl, l, y, .fz _, trivial, .fz _, trivial, c, hc, fin (.inr (grow_exts.mpr (of_decide_eq_true h2))), rfl, rfl, rfl, rfl, rfl⟩
      have hng : ¬ Grow ws y.cps.toList := fun q => h2 (decide_eq_true (grow_exts.mp q))
      refine (law_longest_ok h hy (by omega)).mono ?_
      rintro r S2 ⟨rfl, m, rfl, hm⟩
      have hyne : y.cps.toList ≠ [] := fun q => h1 (str_ext (by rw [q]; rfl))
      cases m with
      | nil => exact (hyne hm).elim
      | cons w m =>
        have bw := hm.1
        have bl := bw.len h
        rw [← len_cps] at bl
        have hgl : g.length ≤ 400 := by
          have h1 := flat_ge h hg.mem
          have h2 := congrArg List.length hg.flat
          rw [List.length_append] at h2
          rw [List.length_append] at hpl
          omega
        rw [List.map_cons, gIxA_lst, at0, pu_some]
        walk_at "wp"
        refine ⟨by omega, l ++ [w], PD.strOf (y.cps.toList.drop w.length), .fz _, trivial, .fz _, trivial, fun k hk => hy k (List.mem_of_mem_drop hk), ?_, ?_, fun g' r q => ?_, ?_, ?_, rfl, rfl⟩
        · rw [strOf_len, List.length_drop, ← len_cps]; omega
        · rw [List.length_append, List.length_singleton]; omega
        · rw [List.append_assoc]
          exact hr _ r ⟨hyne, hng, bw, q⟩
        · rw [List.map_append]; rfl
        · exact cut_rest y _ bl.2.2
    · rintro env S'' ⟨rfl, l, y, b, c, hb, hc, hy, hyl, hll, hr, rfl⟩
      have ey : y.cps.toList = [] := List.length_eq_zero_iff.mp (by rw [← len_cps]; omega)
      have := hr [] _ ⟨rfl, .inl ey⟩
      rw [List.append_nil] at this
      walk_at "wp"
      exact ⟨l, y, .fz _, trivial, b, hb, c, hc, this, rfl, rfl, rfl, rfl, rfl⟩
  · rintro env S' ⟨rfl, g, z, a, b, c, ha, hb, hc, hg, rfl⟩
    walk_at "wp"
    rw [w_frzOw rfl]
    walk_at "wp"
    exact ⟨g, z, ⟨rfl, rfl⟩, hg⟩

end LX

set_option maxHeartbeats 1000000
namespace LX
open PySem PySem.Spec PyProof.Rows L2 PD
local macro_rules | `(tactic| walk_at "wp") => `(tactic| simp (config := { maxSteps := 3000000 }) only [↓PD.w_callB1, ↓PD.w_fld, ↓PD.w_makeN, ↓PD.w_mth, ↓PD.w_mthS, ↓PD.w_mthD, ↓PD.w_mthB, ↓PD.w_mthX, ↓PD.w_putSame, ↓PD.w_put, ↓PD.w_put2, ↓PD.seqF_nx, ↓PD.w_seqF, ↓PD.w_fin, ↓PD.w_end, ↓PD.w_runO, ↓PD.w_makeX, ↓PD.w_runI, ↓PD.exR_ex, ↓PD.exF_ex, ↓PD.w_callO, ↓PD.coK_ok, ↓PD.coK_ex, ↓PD.w_forX, ↓PD.loopX_nx, ↓PD.loopX_ct, ↓PD.loopX_bk, ↓PD.loopX_rt, ↓PD.loopX_ex, ↓PD.w_inX, ↓PD.w_lift, ↓PD.w_seqX, ↓PD.w_ifX, ↓PD.w_callX, ↓PD.w_raise, ↓PD.w_runX, ↓PD.w_try, ↓PD.seqX_nx, ↓PD.seqX_rt, ↓PD.seqX_bk, ↓PD.seqX_ct, ↓PD.seqX_ex, ↓PD.cxK_ok, ↓PD.cxK_ex, ↓PD.outX_rt, ↓PD.outX_nx, ↓PD.outX_ex, ↓PD.tryK_fl, ↓PD.tryK_ex, ↓PD.w_enumL, ↓PD.w_inG, ↓PD.w_disp, ↓PD.w_zip, ↓PD.w_mL, ↓PD.w_keys, ↓PD.w_star, ↓PD.w_enum, ↓PD.w_var, ↓PD.w_varB, ↓PD.w_c, ↓PD.w_2, ↓PD.w_nil, ↓PD.w_cons, ↓PD.w_tup, ↓PD.w_lst, ↓PD.w_call, ↓PD.w_callB, ↓PD.w_b, ↓PD.w_nop, ↓PD.w_p, ↓PD.w_sl, ↓PD.w_rev, ↓PD.w_m, ↓PD.w_is, ↓PD.w_test, ↓PD.w_tru, ↓PD.w_notT, ↓PD.w_andT, ↓PD.w_orT, ↓PD.w_andV, ↓PD.w_notV, ↓PD.w_ifE, ↓PD.w_chain, ↓PD.w_neg, ↓PD.w_it, ↓PD.w_rng1, ↓PD.w_rng2E, ↓PD.w_lc, ↓PD.w_lc2, ↓PD.w_sortSet, ↓PD.w_sortLen, ↓PD.w_thenF, ↓PD.w_dnew, ↓PD.w_dput, ↓PD.w_aug, ↓PD.w_putI, ↓PD.w_augI, ↓PD.w_revR, ↓PD.thenK_nx, ↓PD.w_bNm, ↓PD.w_bTup, ↓PD.w_bTupP, ↓PD.w_bTupN, ↓PD.w_bCons, ↓PD.w_bNil, ↓PD.nOw_no, ↓PD.nOw_fz, ↓PD.w_yes, ↓PD.w_seq, ↓PD.w_next, ↓PD.w_bk, ↓PD.w_ct, ↓PD.w_no, ↓PD.w_if, ↓PD.w_set, ↓PD.w_setN, ↓PD.w_asg, ↓PD.w_ret, ↓PD.w_retV, ↓PD.w_retN, ↓PD.w_drop, ↓PD.w_app, ↓PD.w_ext, ↓PD.w_for, ↓PD.w_run, ↓PD.w_str, ↓PD.w_strP, ↓PD.seqK_nx, ↓PD.seqK_rt, ↓PD.seqK_bk, ↓PD.seqK_ct, ↓PD.outP_rt, ↓PD.outP_nx, ↓PD.loopK_nx, ↓PD.loopK_ct, ↓PD.loopK_bk, ↓PD.loopK_rt, ↓PD.isB_bl, ↓PD.isI_int, ↓PD.isS_str, ↓PD.pu_some, ↓PD.pu_none, ↓PD.ok_some, ↓PD.ok_none, PD.gInG_str, PD.gInX_str, PD.sdF_1, PD.sdT_1, PD.gCount_ints, PD.gMinA_lst, PD.gMaxA_lst, PD.seqD_lst, PD.seqD_tup, PD.gMul_int, PD.gMul_str, PD.gI_, PD.gI0_, PD.gAdd_int, PD.gAdd_str, PD.gAdd_tup, PD.gLt_int, PD.gLe_int, PD.gGt_int, PD.gGe_int, PD.gLen_str, PD.gLen_lst, PD.gLen_tup, PD.gAbs_, PD.gIntOf_int, PD.gIx_lst, PD.gIx_tup, PD.gIx_str, PD.gIxA_lst, PD.gIxA_tup, PD.gIxA_str, PD.gIxA_dk, PD.gIxA_dkI, PD.gInA_sign, PD.gInA_strs, PD.gNotInA_strs, PD.gInA_dk, PD.gLenA_str, PD.gLenA_lst, PD.gLenA_tup, PD.gLenA_dk, PD.gIntOf_bl, PD.gSortD_lst, PD.gTupB_lst, PD.gTupB_tup, PD.gTupB_str, PD.gGeA_int, PD.gGeA_ints, PD.gCat_, PD.gRepA_, PD.gStarts_1, PD.gStarts_3, PD.gEnds_1, PD.gEnds_4, PD.dKey_str, PD.dKey_int, PD.gSl_lst, PD.gSl_tup, PD.gSl_str, PD.gRev_lst, PD.gRev_tup, PD.gRev_str, PD.gLstA_lst, PD.gLstA_tup, PD.gLstA_str, PD.gTupA_lst, PD.gTupA_tup, PD.gAll_, PD.gAny_, PD.gSum_, PD.gSortA_strs, PD.gSortA_pairs, PD.gJoin_lst, PD.gEq_int, PD.gEq_bl, PD.gIs_non, PD.gIn_sign, PD.gIn_strs, PD.gNotIn_strs, PD.items_lst, PD.items_tup, PD.items_str, PD.rng1_, PD.rng2_, PD.dTru_bl, PD.dTru_int, PD.dTru_non, PD.dTru_tup, PD.dTru_lst, PD.dTru_str, PD.pairD, PD.isTy_int_non, PD.isTy_int_bl, PD.isTy_int_int, PD.isTy_int_str, PD.isTy_int_tup, PD.isTy_int_lst, PD.isTy_bool_non, PD.isTy_bool_bl, PD.isTy_bool_int, PD.isTy_bool_str, PD.isTy_bool_tup, PD.isTy_bool_lst, PD.isTy_str_non, PD.isTy_str_bl, PD.isTy_str_int, PD.isTy_str_str, PD.isTy_str_tup, PD.isTy_str_lst, PD.isTy_tuple_non, PD.isTy_tuple_bl, PD.isTy_tuple_int, PD.isTy_tuple_str, PD.isTy_tuple_tup, PD.isTy_tuple_lst, PD.isTy_list_non, PD.isTy_list_bl, PD.isTy_list_int, PD.isTy_list_str, PD.isTy_list_tup, PD.isTy_list_lst, PD.wipeE, PD.initE, List.length_cons, List.length_nil, List.length_map, List.map_cons, List.map_nil, List.getElem?_cons_zero, List.getElem?_cons_succ, List.getElem?_nil, List.set_cons_zero, List.set_cons_succ, List.replicate_succ, List.replicate_zero, List.cons_append, List.nil_append, Option.some.injEq, Option.bind_some, Option.map_some, Slo.fz.injEq, Slo.ow.injEq, Dat.bl.injEq, Dat.int.injEq, Dat.str.injEq, Dat.tup.injEq, Dat.lst.injEq, Dat.dk.injEq, List.cons.injEq, reduceCtorEq, exists_eq_left, exists_eq_left', exists_and_left, false_or, or_false, true_or, false_and, and_false, true_and, and_true, if_true, if_false, Bool.not_true, Bool.not_false, Bool.false_eq_true, Bool.true_eq_false, Bool.false_xor, Bool.true_xor, decide_eq_true_eq, decide_eq_false_iff_not, Nat.reduceAdd, Nat.reduceSub, Nat.reduceLT, Nat.reduceLeDiff, Nat.zero_add, Nat.zero_lt_succ, Nat.reduceEqDiff, Int.reduceEq, Int.reduceNeg, reduceIte, eq_self_iff_true, ne_eq, not_true_eq_false, not_false_eq_true, Int.reduceAdd, Int.reduceSub, Int.reduceLT, Int.reduceLE, Int.reducePow, Int.reduceToNat, Int.toNat_natCast])

/-! ### text * n, endswith -/
theorem foldl_cat (a : Array Nat) : ∀ (k : Nat) (acc : Array Nat), ((List.replicate k a).foldl (· ++ ·) acc).toList = acc.toList ++ (List.replicate k a.toList).flatten
  | 0, acc => by simp
  | k + 1, acc => by
    rw [List.replicate_succ, List.foldl_cons, foldl_cat a k, Array.toList_append, List.append_assoc, List.replicate_succ, List.flatten_cons]
theorem mul_rep (x : Str) (n : Int) : (Txt.mul x n).cps.toList = (List.replicate n.toNat x.cps.toList).flatten := by
  unfold Txt.mul
  by_cases h1 : n < 1
  · rw [if_pos h1]
    have e : n.toNat = 0 := by omega
    rw [e]; rfl
  · rw [if_neg h1]
    by_cases h2 : n = 1
    · subst h2
      rw [if_pos (by simp)]
      show _ = (List.replicate 1 x.cps.toList).flatten
      simp
    · by_cases h3 : x.length = 0
      · rw [if_pos (by simp [h3])]
        have e : x.cps.toList = [] := List.length_eq_zero_iff.mp (by rw [← len_cps]; exact h3)
        rw [e]
        simp
      · rw [if_neg (by simp [h2, h3])]
        show ((List.replicate n.toNat x.cps).foldl (· ++ ·) #[]).toList = _
        rw [foldl_cat]
        simp
theorem mul_len (x : Str) (k : Nat) : (Txt.mul x (k : Int)).length = k * x.length := by
  rw [len_cps, mul_rep, Int.toNat_natCast, len_cps]
  induction k with
  | zero => simp
  | succ k ih => rw [List.replicate_succ, List.flatten_cons, List.length_append, ih, Nat.succ_mul, Nat.add_comm]
theorem mul_mem {x : Str} {n : Int} {c : Nat} (h : c ∈ (Txt.mul x n).cps.toList) : c ∈ x.cps.toList := by
  rw [mul_rep] at h
  obtain ⟨l, hl, hc⟩ := List.mem_flatten.mp h
  rw [(List.mem_replicate.mp hl).2] at hc
  exact hc
theorem ends_suf {x y : Str} : Txt.endswith x y = decide (y.cps.toList <:+ x.cps.toList) := by
  unfold Txt.endswith
  rw [PySem.StrLaws.subAt_eq, Bool.eq_iff_iff, Bool.and_eq_true, decide_eq_true_eq, decide_eq_true_eq, beq_iff_eq, List.suffix_iff_eq_drop, len_cps x, len_cps y]
  constructor
  · rintro ⟨h1, h2⟩
    rw [← h2, List.take_of_length_le (by rw [List.length_drop]; omega)]
    rw [List.length_drop]
    congr 1
    omega
  · intro h
    have := congrArg List.length h
    rw [List.length_drop] at this
    refine ⟨by omega, ?_⟩
    rw [← h]
    exact List.take_of_length_le (Nat.le_refl _)

end LX

set_option maxHeartbeats 1000000
namespace LX
open PySem PySem.Spec PyProof.Rows L2 PD
local macro_rules | `(tactic| walk_at "wp") => `(tactic| simp (config := { maxSteps := 3000000 }) only [↓PD.w_callB1, ↓PD.w_fld, ↓PD.w_makeN, ↓PD.w_mth, ↓PD.w_mthS, ↓PD.w_mthD, ↓PD.w_mthB, ↓PD.w_mthX, ↓PD.w_putSame, ↓PD.w_put, ↓PD.w_put2, ↓PD.seqF_nx, ↓PD.w_seqF, ↓PD.w_fin, ↓PD.w_end, ↓PD.w_runO, ↓PD.w_makeX, ↓PD.w_runI, ↓PD.exR_ex, ↓PD.exF_ex, ↓PD.w_callO, ↓PD.coK_ok, ↓PD.coK_ex, ↓PD.w_forX, ↓PD.loopX_nx, ↓PD.loopX_ct, ↓PD.loopX_bk, ↓PD.loopX_rt, ↓PD.loopX_ex, ↓PD.w_inX, ↓PD.w_lift, ↓PD.w_seqX, ↓PD.w_ifX, ↓PD.w_callX, ↓PD.w_raise, ↓PD.w_runX, ↓PD.w_try, ↓PD.seqX_nx, ↓PD.seqX_rt, ↓PD.seqX_bk, ↓PD.seqX_ct, ↓PD.seqX_ex, ↓PD.cxK_ok, ↓PD.cxK_ex, ↓PD.outX_rt, ↓PD.outX_nx, ↓PD.outX_ex, ↓PD.tryK_fl, ↓PD.tryK_ex, ↓PD.w_enumL, ↓PD.w_inG, ↓PD.w_disp, ↓PD.w_zip, ↓PD.w_mL, ↓PD.w_keys, ↓PD.w_star, ↓PD.w_enum, ↓PD.w_var, ↓PD.w_varB, ↓PD.w_c, ↓PD.w_2, ↓PD.w_nil, ↓PD.w_cons, ↓PD.w_tup, ↓PD.w_lst, ↓PD.w_call, ↓PD.w_callB, ↓PD.w_b, ↓PD.w_nop, ↓PD.w_p, ↓PD.w_sl, ↓PD.w_rev, ↓PD.w_m, ↓PD.w_is, ↓PD.w_test, ↓PD.w_tru, ↓PD.w_notT, ↓PD.w_andT, ↓PD.w_orT, ↓PD.w_andV, ↓PD.w_notV, ↓PD.w_ifE, ↓PD.w_chain, ↓PD.w_neg, ↓PD.w_it, ↓PD.w_rng1, ↓PD.w_rng2E, ↓PD.w_lc, ↓PD.w_lc2, ↓PD.w_sortSet, ↓PD.w_sortLen, ↓PD.w_thenF, ↓PD.w_dnew, ↓PD.w_dput, ↓PD.w_aug, ↓PD.w_putI, ↓PD.w_augI, ↓PD.w_revR, ↓PD.thenK_nx, ↓PD.w_bNm, ↓PD.w_bTup, ↓PD.w_bTupP, ↓PD.w_bTupN, ↓PD.w_bCons, ↓PD.w_bNil, ↓PD.nOw_no, ↓PD.nOw_fz, ↓PD.w_yes, ↓PD.w_seq, ↓PD.w_next, ↓PD.w_bk, ↓PD.w_ct, ↓PD.w_no, ↓PD.w_if, ↓PD.w_set, ↓PD.w_setN, ↓PD.w_asg, ↓PD.w_ret, ↓PD.w_retV, ↓PD.w_retN, ↓PD.w_drop, ↓PD.w_app, ↓PD.w_ext, ↓PD.w_for, ↓PD.w_run, ↓PD.w_str, ↓PD.w_strP, ↓PD.seqK_nx, ↓PD.seqK_rt, ↓PD.seqK_bk, ↓PD.seqK_ct, ↓PD.outP_rt, ↓PD.outP_nx, ↓PD.loopK_nx, ↓PD.loopK_ct, ↓PD.loopK_bk, ↓PD.loopK_rt, ↓PD.isB_bl, ↓PD.isI_int, ↓PD.isS_str, ↓PD.pu_some, ↓PD.pu_none, ↓PD.ok_some, ↓PD.ok_none, PD.gInG_str, PD.gInX_str, PD.sdF_1, PD.sdT_1, PD.gCount_ints, PD.gMinA_lst, PD.gMaxA_lst, PD.seqD_lst, PD.seqD_tup, PD.gMul_int, PD.gMul_str, PD.gI_, PD.gI0_, PD.gAdd_int, PD.gAdd_str, PD.gAdd_tup, PD.gLt_int, PD.gLe_int, PD.gGt_int, PD.gGe_int, PD.gLen_str, PD.gLen_lst, PD.gLen_tup, PD.gAbs_, PD.gIntOf_int, PD.gIx_lst, PD.gIx_tup, PD.gIx_str, PD.gIxA_lst, PD.gIxA_tup, PD.gIxA_str, PD.gIxA_dk, PD.gIxA_dkI, PD.gInA_sign, PD.gInA_strs, PD.gNotInA_strs, PD.gInA_dk, PD.gLenA_str, PD.gLenA_lst, PD.gLenA_tup, PD.gLenA_dk, PD.gIntOf_bl, PD.gSortD_lst, PD.gTupB_lst, PD.gTupB_tup, PD.gTupB_str, PD.gGeA_int, PD.gGeA_ints, PD.gCat_, PD.gRepA_, PD.gStarts_1, PD.gStarts_3, PD.gEnds_1, PD.gEnds_4, PD.dKey_str, PD.dKey_int, PD.gSl_lst, PD.gSl_tup, PD.gSl_str, PD.gRev_lst, PD.gRev_tup, PD.gRev_str, PD.gLstA_lst, PD.gLstA_tup, PD.gLstA_str, PD.gTupA_lst, PD.gTupA_tup, PD.gAll_, PD.gAny_, PD.gSum_, PD.gSortA_strs, PD.gSortA_pairs, PD.gJoin_lst, PD.gEq_int, PD.gEq_bl, PD.gIs_non, PD.gIn_sign, PD.gIn_strs, PD.gNotIn_strs, PD.items_lst, PD.items_tup, PD.items_str, PD.rng1_, PD.rng2_, PD.dTru_bl, PD.dTru_int, PD.dTru_non, PD.dTru_tup, PD.dTru_lst, PD.dTru_str, PD.pairD, PD.isTy_int_non, PD.isTy_int_bl, PD.isTy_int_int, PD.isTy_int_str, PD.isTy_int_tup, PD.isTy_int_lst, PD.isTy_bool_non, PD.isTy_bool_bl, PD.isTy_bool_int, PD.isTy_bool_str, PD.isTy_bool_tup, PD.isTy_bool_lst, PD.isTy_str_non, PD.isTy_str_bl, PD.isTy_str_int, PD.isTy_str_str, PD.isTy_str_tup, PD.isTy_str_lst, PD.isTy_tuple_non, PD.isTy_tuple_bl, PD.isTy_tuple_int, PD.isTy_tuple_str, PD.isTy_tuple_tup, PD.isTy_tuple_lst, PD.isTy_list_non, PD.isTy_list_bl, PD.isTy_list_int, PD.isTy_list_str, PD.isTy_list_tup, PD.isTy_list_lst, PD.wipeE, PD.initE, List.length_cons, List.length_nil, List.length_map, List.map_cons, List.map_nil, List.getElem?_cons_zero, List.getElem?_cons_succ, List.getElem?_nil, List.set_cons_zero, List.set_cons_succ, List.replicate_succ, List.replicate_zero, List.cons_append, List.nil_append, Option.some.injEq, Option.bind_some, Option.map_some, Slo.fz.injEq, Slo.ow.injEq, Dat.bl.injEq, Dat.int.injEq, Dat.str.injEq, Dat.tup.injEq, Dat.lst.injEq, Dat.dk.injEq, List.cons.injEq, reduceCtorEq, exists_eq_left, exists_eq_left', exists_and_left, false_or, or_false, true_or, false_and, and_false, true_and, and_true, if_true, if_false, Bool.not_true, Bool.not_false, Bool.false_eq_true, Bool.true_eq_false, Bool.false_xor, Bool.true_xor, decide_eq_true_eq, decide_eq_false_iff_not, Nat.reduceAdd, Nat.reduceSub, Nat.reduceLT, Nat.reduceLeDiff, Nat.zero_add, Nat.zero_lt_succ, Nat.reduceEqDiff, Int.reduceEq, Int.reduceNeg, reduceIte, eq_self_iff_true, ne_eq, not_true_eq_false, not_false_eq_true, Int.reduceAdd, Int.reduceSub, Int.reduceLT, Int.reduceLE, Int.reducePow, Int.reduceToNat, Int.toNat_natCast])

/-! ### the methods of a reader -/
def rdr (ws : List (Str × Int)) (x : Str) : List (Str × Dat) := [("_words", listD ws), ("_letters", .str x)]
theorem look_w {ws : List (Str × Int)} {x : Str} : (rdr ws x).lookup ("_words" : Str) = some (listD ws) := rfl
theorem look_l {ws : List (Str × Int)} {x : Str} : (rdr ws x).lookup ("_letters" : Str) = some (.str x) := rfl
theorem look_r {ws : List (Str × Int)} {x : Str} : (rdr ws x).lookup ("read" : Str) = none := rfl
theorem put_l {ws : List (Str × Int)} {x y : Str} : putFD ("_letters" : Str) (.str y) (rdr ws x) = rdr ws y := rfl
theorem put_n {ws : List (Str × Int)} : putFD ("_letters" : Str) (.str "") (putFD ("_words" : Str) (listD ws) []) = rdr ws "" := rfl
theorem rd_init_ok {C : Nat} {ws : List (Str × Int)} {S : Sm} (h : WL ws) : Ok (p_Reader_init C [] [listD ws] S) fun w S' => S' = S ∧ w = (.non, rdr ws "") := by
  unfold p_Reader_init m_Reader_init
  rw [w_runO]
  refine ⟨rfl, ?_⟩
  rw [show initO C [] n_Reader_init [listD ws] = [.ow (.ob C []), .fz (listD ws)] from rfl]
  walk_at "wp"
  refine (check_list_ok h).mono ?_
  rintro r S1 ⟨rfl, rfl⟩
  try walk_at "wp"
  exact ⟨[], rfl, by decide, _, rfl, (by show 1 < 1000; decide), _, rfl, by rw [put_n]⟩
theorem rd_read_ok {C : Nat} {ws : List (Str × Int)} {x y : Str} {S : Sm} (h : WL ws) (hx : Tx ws x) (hy : Tx ws y) (hl : x.length ≤ 30) (yl : y.length ≤ 30) : Ok (p_Reader_read C (rdr ws x) [.str y] S) fun w S' => S' = S ∧ ∃ (g : List Str) (z : Str), w = (.lst (g.map .str), rdr ws z) ∧ Gv ws (x.cps.toList ++ y.cps.toList) g z.cps.toList := by
  unfold p_Reader_read m_Reader_read
  rw [w_runO]
  refine ⟨rfl, ?_⟩
  rw [show initO C (rdr ws x) n_Reader_read [.str y] = [.ow (.ob C (rdr ws x)), .fz (.str y), .no] from rfl]
  walk_at "wp"
  refine ⟨_, rfl, _, look_w, ?_⟩
  refine (fits_ok h.le rfl).mono ?_
  rintro r S1 ⟨rfl, rfl⟩
  have hf : fitB ws (.str y) = true := by
    show (decide (y.length ≤ 30) && y.cps.toList.all fun c => decide (c ∈ lets ws)) = true
    rw [decide_eq_true yl, Bool.true_and, List.all_eq_true]
    exact fun c hc => decide_eq_true (hy c hc)
  rw [hf, dTru_bl, pu_some, Bool.not_true, if_neg Bool.false_ne_true]
  refine ⟨_, rfl, _, look_w, _, rfl, _, look_l, ?_⟩
  refine (read_letters_ok h hx hy (by omega)).mono ?_
  rintro r S2 ⟨rfl, g, z, rfl, hg⟩
  exact ⟨_, _, _, rfl, rfl, (by show 2 < 1000; decide), _, rfl, rfl, g, z, by rw [put_l], hg⟩
theorem rd_held_ok {C : Nat} {ws : List (Str × Int)} {x : Str} {S : Sm} : Ok (p_Reader_held C [.ob C (rdr ws x)] S) fun r S' => S' = S ∧ r = .str x := by
  unfold p_Reader_held m_Reader_held
  walk_at "wp"
  exact ⟨_, rfl, _, look_l, rfl⟩
theorem rd_fin_ok {C : Nat} {ws : List (Str × Int)} {x : Str} {S : Sm} (h : WL ws) (hx : Tx ws x) (hl : x.length ≤ 30) : Ok (p_Reader_finish C (rdr ws x) [] S) fun w S' => S' = S ∧ ∃ l : List Str, w = (.lst (l.map .str), rdr ws "") ∧ IsLM ws x.cps.toList l := by
  unfold p_Reader_finish m_Reader_finish
  rw [w_runO]
  refine ⟨rfl, ?_⟩
  rw [show initO C (rdr ws x) n_Reader_finish [] = [.ow (.ob C (rdr ws x)), .no] from rfl]
  walk_at "wp"
  refine ⟨_, rfl, _, look_w, _, rfl, _, look_l, ?_⟩
  refine (find_match_ok (i := 0) h hx (by omega) (Nat.zero_le _)).mono ?_
  rintro r S1 ⟨rfl, l, rfl, hm⟩
  rw [show gLstA [.tup (l.map .str)] = some (.lst (l.map .str)) from rfl, pu_some]
  exact ⟨_, rfl, (by show 2 < 1000; decide), _, rfl, rfl, l, by rw [put_l], hm⟩
theorem rd_fin0_ok {C : Nat} {ws : List (Str × Int)} {S : Sm} (h : WL ws) : Ok (pf_Reader_finish C [.ob C (rdr ws "")] S) fun r S' => S' = S ∧ r = .lst [] := by
  unfold pf_Reader_finish mf_Reader_finish
  walk_at "wp"
  refine ⟨_, rfl, _, look_w, _, rfl, _, look_l, ?_⟩
  refine (find_match_ok (i := 0) (x := "") h (fun c hc => by cases hc) (by decide) (Nat.zero_le _)).mono ?_
  rintro r S1 ⟨rfl, l, rfl, hm⟩
  have e : l = [] := isLM_uniq h hm (show IsLM ws [] [] from rfl)
  subst e
  rw [show gLstA [.tup (([] : List Str).map .str)] = some (.lst []) from rfl, pu_some]
  exact ⟨_, rfl, (by show 2 < 1000; decide), look_l, rfl, rfl⟩
theorem told_ok {C : Nat} {ws : List (Str × Int)} {x : Str} {d : Dat} {S : Sm} (h : WL ws) (h6 : six d = true) (hd : fitB ws d = false) : Ok (p__law_told C [.ob C (rdr ws x), d] S) fun r S' => S' = S ∧ r = .tup [.str "bad", .str "piece"] := by
  unfold p__law_told m__law_told
  walk_at "wp"
  refine ⟨_, rfl, look_r, ?_⟩
  unfold px_Reader_read mx_Reader_read
  walk_at "wp"
  refine ⟨_, rfl, _, look_w, ?_⟩
  refine (fits_ok h.le h6).mono ?_
  rintro r S1 ⟨rfl, rfl⟩
  rw [hd, dTru_bl, pu_some, Bool.not_false, if_pos rfl]
theorem look_h {ws : List (Str × Int)} {x : Str} : (rdr ws x).lookup ("held" : Str) = none := rfl
theorem look_f {ws : List (Str × Int)} {x : Str} : (rdr ws x).lookup ("finish" : Str) = none := rfl
theorem Gv.sub {ws : List (Str × Int)} {g : List Str} {t r : List Nat} (a : Gv ws t g r) : ∀ c ∈ r, c ∈ t := fun c hc => by
  rw [← a.flat]
  exact List.mem_append_right _ hc
theorem Gv.three {ws : List (Str × Int)} (h : WL ws) {g : List Str} {t r : List Nat} (a : Gv ws t g r) : r.length ≤ 3 := by
  rcases a.held with e | ⟨v, hv, hl, _⟩
  · rw [e]; decide
  · have := (h.one' hv).2
    omega
theorem okE_g {ws : List (Str × Int)} {g : List Str} {t r : List Nat} (h : WL ws) (a : Gv ws t g r) (hl : t.length ≤ 400) : okE 6 (.lst (g.map .str)) := by
  refine ⟨by rw [List.length_map]; exact Nat.le_trans (a.few h) (by omega), fun e he => ?_⟩
  obtain ⟨x, hx, rfl⟩ := List.mem_map.mp he
  exact nm_sm h (a.mem x hx)
theorem fit_longR {ws : List (Str × Int)} {x : Str} (h : ¬ x.length ≤ 30) : fitB ws (.str x) = false := by
  show (decide (x.length ≤ 30) && x.cps.toList.all fun c => decide (c ∈ lets ws)) = false
  rw [decide_eq_false h, Bool.false_and]
theorem okE_piece : okE 6 (.tup [.str "bad", .str "piece"]) := by
  refine ⟨by decide, fun e he => ?_⟩
  simp only [List.mem_cons, List.not_mem_nil, or_false] at he
  rcases he with rfl | rfl
  · exact (fun c hc => by revert c; decide : SmS "bad")
  · exact (fun c hc => by revert c; decide : SmS "piece")
theorem pick_atR {ds : List Dat} {i : Nat} (h : i < ds.length) : ∃ d, atI ds (i : Int) = some d ∧ d ∈ ds := ⟨ds[i], atI_nat (List.getElem?_eq_getElem h), List.getElem_mem h⟩
def bads (c : Nat) : List Dat := [.non, .str "A", .str (Txt.mul (PD.sg c) 31), .int 5, .lst [.str (PD.sg c)]]
theorem bads_no {ws : List (Str × Int)} {c : Nat} (h : WL ws) : ∀ d ∈ bads c, six d = true ∧ fitB ws d = false := by
  intro d hd
  simp only [bads, List.mem_cons, List.not_mem_nil, or_false] at hd
  rcases hd with rfl | rfl | rfl | rfl | rfl
  · exact ⟨rfl, rfl⟩
  · refine ⟨rfl, ?_⟩
    show (decide (("A" : Str).length ≤ 30) && ([65] : List Nat).all fun c => decide (c ∈ lets ws)) = false
    have n65 : (65 : Nat) ∉ lets ws := fun q => by have := lets_az h q; revert this; decide
    rw [List.all_cons, decide_eq_false n65, Bool.false_and, Bool.and_false]
  · refine ⟨rfl, fit_longR ?_⟩
    have := mul_len (PD.sg c) 31
    rw [show (PD.sg c).length = 1 from rfl] at this
    have e : ((31 : Nat) : Int) = 31 := rfl
    rw [e] at this
    omega
  · exact ⟨rfl, rfl⟩
  · exact ⟨rfl, rfl⟩
theorem law_ok (C : Nat) (ns : List Int) (hn : ns.length ≤ 63) : ∃ S', m_law C (lawE n_law) ⟨ns, 0, 0⟩ = some (.rt (.bl true), S') := by
  suffices h : Ok (m_law C (lawE n_law) ⟨ns, 0, 0⟩) fun f _ => f = .rt (.bl true) by
    obtain ⟨f, S', e, rfl⟩ := h
    exact ⟨S', e⟩
  have g0 : Gd ⟨ns, 0, 0⟩ := ⟨Nat.le_trans hn (by decide), Int.le_refl 0⟩
  rw [show lawE n_law = [.no, .fz .strm, .no, .no, .no, .no, .no, .no, .no, .no, .no, .no, .no, .no, .no, .no, .no] from rfl]
  walk_at "wp"
  refine (drawn_letters_ok g0).mono ?_
  rintro d S1 ⟨g1, L, rfl, hL⟩
  try walk_at "wp"
  refine (drawn_words_ok g1 hL).mono ?_
  rintro d S2 ⟨g2, ws, rfl, hW, hLW⟩
  try walk_at "wp"
  refine (rd_init_ok hW).mono ?_
  rintro w S3 ⟨rfl, rfl⟩
  refine ⟨rfl, ?_⟩
  try walk_at "wp"
  refine (rd_init_ok hW).mono ?_
  rintro w S4 ⟨rfl, rfl⟩
  refine ⟨rfl, ?_⟩
  try walk_at "wp"
  refine ⟨by decide, ?_⟩
  refine ok_forN 0 2 (fun t env S => Gd S ∧ ∃ (ap z : Str) (g : List Str) (a7 a8 a9 a10 a11 a12 a13 a14 a15 a16 : Slo), nOw a7 ∧ nOw a8 ∧ nOw a9 ∧ nOw a10 ∧ nOw a11 ∧ nOw a12 ∧ nOw a13 ∧ nOw a14 ∧ nOw a15 ∧ nOw a16 ∧ Tx ws ap ∧ ap.length ≤ 6 * t ∧ Gv ws ap.cps.toList g z.cps.toList ∧
    env = [.no, .fz .strm, .fz (letsD L), .fz (listD ws), .ow (.ob C (rdr ws "")), .ow (.ob C (rdr ws z)), .fz (.str ap), a7, a8, a9, a10, a11, a12, a13, a14, a15, a16]) ?_ ?_ _ _ ⟨g2, "", "", [], .no, .no, .no, .no, .no, .no, .no, .no, .no, .no, trivial, trivial, trivial, trivial, trivial, trivial, trivial, trivial, trivial, trivial, (fun c hc => by cases hc), by decide, ⟨rfl, .inl rfl⟩, rfl⟩
  · rintro t env S ht ⟨g3, ap, z, g, a7, a8, a9, a10, a11, a12, a13, a14, a15, a16, h7, h8, h9, h10, h11, h12, h13, h14, h15, h16, hap, apl, hg, rfl⟩
    walk_at "wp"
    refine ⟨h7, ?_⟩
    refine (next_ok g3 (by decide) (by decide)).mono ?_
    rintro d S5 ⟨g5, m, rfl, hm⟩
    walk_at "wp"
    refine ⟨rng_fits (by omega), ?_⟩
    refine ok_forN 0 m (fun k env S => Gd S ∧ ∃ (x y ap z : Str) (g1 g : List Str) (a10 a11 a12 a13 a14 a15 : Slo), nOw a10 ∧ nOw a11 ∧ nOw a12 ∧ nOw a13 ∧ nOw a14 ∧ nOw a15 ∧ Tx ws y ∧ y.length ≤ 30 * k ∧ Gv ws y.cps.toList g1 x.cps.toList ∧ Tx ws ap ∧ ap.length ≤ 6 * t + k ∧ Gv ws ap.cps.toList g z.cps.toList ∧
      env = [.no, .fz .strm, .fz (letsD L), .fz (listD ws), .ow (.ob C (rdr ws x)), .ow (.ob C (rdr ws z)), .fz (.str ap), .fz (.int t), .fz (.str y), .fz (.lst (g1.map .str)), a10, a11, a12, a13, a14, a15, a16]) ?_ ?_ _ _ ⟨g5, "", "", ap, z, [], g, a10, a11, a12, a13, a14, a15, h10, h11, h12, h13, h14, h15, (fun c hc => by cases hc), by decide, ⟨rfl, .inl rfl⟩, hap, by omega, hg, rfl⟩
    · rintro k env S hk ⟨g6, x, y, ap, z, g1, g, a10, a11, a12, a13, a14, a15, h10, h11, h12, h13, h14, h15, hy, hyl, hx, hap, apl, hg, rfl⟩
      walk_at "wp"
      have big : (1000 : Nat) ≤ sizeLine := by decide
      refine ⟨h10, ?_⟩
      refine (next_ok g6 (by decide) (by decide)).mono ?_
      rintro d S7 ⟨g7, j, rfl, hj⟩
      obtain ⟨w, hw, hwl⟩ : ∃ w : Nat, atI [Dat.int 8, Dat.int 8, Dat.int 30] (j : Int) = some (.int (w : Nat)) ∧ w ≤ 30 := by
        have : j = 0 ∨ j = 1 ∨ j = 2 := by omega
        rcases this with rfl | rfl | rfl
        · exact ⟨8, atI_nat (j := 0) rfl, by decide⟩
        · exact ⟨8, atI_nat (j := 1) rfl, by decide⟩
        · exact ⟨30, atI_nat (j := 2) rfl, by decide⟩
      rw [gIxA_lst, hw, pu_some]
      refine (drawn_string_ok (most := w) g7 hL (by omega)).mono ?_
      rintro d S8 ⟨g8, p, rfl, hp, hpl⟩
      have hpT : Tx ws p := fun c hc => (hLW c).mpr (hp c hc)
      have hxT : Tx ws x := fun c hc => hy c (hx.sub c hc)
      have x3 := hx.three hW
      rw [← len_cps] at x3
      have yl2 : (y ++ p).length ≤ 400 := by rw [str_len]; omega
      rw [gAdd_str]
      refine ⟨by omega, _, rfl, look_r, ?_⟩
      refine (rd_read_ok hW hxT hpT (by omega) (by omega)).mono ?_
      rintro w S9 ⟨rfl, gn, xn, rfl, hn2⟩
      have hy2 : Gv ws (y ++ p).cps.toList (g1 ++ gn) xn.cps.toList := by
        rw [cat_cps]
        exact gv_app hW hx hn2
      have gl := hy2.few hW
      rw [← len_cps, List.length_append] at gl
      rw [show isTy "list" (Dat.lst (gn.map .str)) = some true from rfl, pu_some, Bool.not_true, if_neg Bool.false_ne_true, gCat_]
      refine ⟨by rw [List.length_map, List.length_map]; omega, ?_⟩
      refine (law_after_ok hW (x := y ++ p) (hy.cat hpT) yl2).mono ?_
      rintro r S10 ⟨rfl, ga, za, rfl, hga⟩
      obtain ⟨rfl, ez⟩ := gv_uniq hga hy2
      obtain rfl : za = xn := str_ext ez
      have hznT : Tx ws za := fun c hc => hy.cat hpT c (hy2.sub c hc)
      have okG := okE_g hW hy2 (by rw [← len_cps]; exact yl2)
      rw [← List.map_append]
      walk_at "wp"
      refine ⟨h13, h14, ?_⟩
      refine (equal_refl 6 _ _ okG).mono ?_
      rintro r S11 ⟨rfl, rfl⟩
      rw [dTru_bl, pu_some, Bool.not_true, if_neg Bool.false_ne_true]
      refine ⟨_, rfl, look_h, ?_⟩
      refine rd_held_ok.mono ?_
      rintro r S12 ⟨rfl, rfl⟩
      refine ⟨rfl, ?_⟩
      refine (equal_refl 6 (.str za) _ (hznT.sm hW)).mono ?_
      rintro r S13 ⟨rfl, rfl⟩
      rw [dTru_bl, pu_some, Bool.not_true, if_neg Bool.false_ne_true]
      obtain ⟨c0, hc0, e0⟩ : ∃ c0 ∈ L, atI (L.map fun c => Dat.str (PD.sg c)) 0 = some (.str (PD.sg c0)) := by
        have h1 := hL.some_
        cases L with
        | nil => simp at h1
        | cons c0 L => exact ⟨c0, List.mem_cons_self, atI_nat (j := 0) rfl⟩
      obtain ⟨c1, hc1, e1⟩ : ∃ c1 ∈ L, atI (L.map fun c => Dat.str (PD.sg c)) (-1) = some (.str (PD.sg c1)) := by
        have h1 := hL.some_
        rw [PD.atI_last, List.getLast?_map]
        cases e : L.getLast? with
        | none => rw [List.getLast?_eq_none_iff] at e; rw [e] at h1; simp at h1
        | some c1 => exact ⟨c1, List.mem_of_getLast? e, rfl⟩
      have ix0 : ∀ Q : Dat → Prop, Q (.str (PD.sg c0)) → Pu (gIxA (letsD L) (.int 0)) Q := fun Q q => by
        unfold letsD
        rw [gIxA_lst, e0, pu_some]
        exact q
      have ix1 : ∀ Q : Dat → Prop, Q (.str (PD.sg c1)) → Pu (gIxA (letsD L) (.int (-1))) Q := fun Q q => by
        unfold letsD
        rw [gIxA_lst, e1, pu_some]
        exact q
      refine ix0 _ ?_
      rw [gMul_str]
      refine ⟨⟨(show (1 : Nat) ≤ 1000 by decide), by decide, by decide⟩, ix0 _ ?_⟩
      refine (next_ok g8 (by decide) (by decide)).mono ?_
      rintro d S14 ⟨g14, b, rfl, hb⟩
      obtain ⟨bd, eb, mb⟩ := pick_atR (ds := bads c0) (i := b) (by show b < 5; exact Int.ofNat_lt.mp hb)
      show Pu (gIxA (.lst (bads c0)) _) _
      rw [gIxA_lst, eb, pu_some]
      refine (told_ok hW (bads_no hW bd mb).1 (bads_no hW bd mb).2).mono ?_
      rintro r S15 ⟨rfl, rfl⟩
      refine ⟨rfl, ?_⟩
      refine (equal_refl 6 _ _ okE_piece).mono ?_
      rintro r S16 ⟨rfl, rfl⟩
      rw [dTru_bl, pu_some, Bool.not_true, if_neg Bool.false_ne_true]
      refine ⟨_, rfl, look_h, ?_⟩
      refine rd_held_ok.mono ?_
      rintro r S17 ⟨rfl, rfl⟩
      refine ⟨rfl, ?_⟩
      refine (equal_refl 6 (.str za) _ (hznT.sm hW)).mono ?_
      rintro r S18 ⟨rfl, rfl⟩
      rw [dTru_bl, pu_some, Bool.not_true, if_neg Bool.false_ne_true]
      refine ix1 _ ?_
      have c1T : Tx ws (PD.sg c1) := Tx.sg ((hLW c1).mpr hc1)
      have c1l : (PD.sg c1).length = 1 := rfl
      have hzT : Tx ws z := fun c hc => hap c (hg.sub c hc)
      have z3 := hg.three hW
      rw [← len_cps] at z3
      have apl2 : (ap ++ PD.sg c1).length = ap.length + 1 := by rw [str_len, c1l]
      rw [gAdd_str]
      refine ⟨by omega, _, rfl, look_r, ix1 _ ?_⟩
      refine (rd_read_ok hW hzT c1T (by omega) (by omega)).mono ?_
      rintro w2 S19 ⟨rfl, gz, zn, rfl, hz2⟩
      have hap2 : Gv ws (ap ++ PD.sg c1).cps.toList (g ++ gz) zn.cps.toList := by
        rw [cat_cps]
        exact gv_app hW hg hz2
      have znT : Tx ws zn := fun c hc => hap.cat c1T c (hap2.sub c hc)
      refine ⟨_, rfl, look_h, ?_⟩
      refine rd_held_ok.mono ?_
      rintro r S20 ⟨rfl, rfl⟩
      refine ⟨rfl, ?_⟩
      refine (law_after_ok hW (x := ap ++ PD.sg c1) (hap.cat c1T) (by omega)).mono ?_
      rintro r S21 ⟨rfl, ga2, za2, rfl, hga2⟩
      obtain ⟨rfl, ez2⟩ := gv_uniq hga2 hap2
      obtain rfl : za2 = zn := str_ext ez2
      rw [gIxA_tup, at1, pu_some]
      refine (equal_refl 6 (.str za2) _ (znT.sm hW)).mono ?_
      rintro r S22 ⟨rfl, rfl⟩
      rw [dTru_bl, pu_some, Bool.not_true, if_neg Bool.false_ne_true]
      refine ⟨_, rfl, look_h, ?_⟩
      refine rd_held_ok.mono ?_
      rintro r S23 ⟨rfl, rfl⟩
      refine ⟨rfl, ?_⟩
      refine (equal_refl 6 (.str za) _ (hznT.sm hW)).mono ?_
      rintro r S24 ⟨rfl, rfl⟩
      rw [dTru_bl, pu_some, Bool.not_true, if_neg Bool.false_ne_true]
      exact ⟨g14, za, y ++ p, ap ++ PD.sg c1, za2, g1 ++ gn, g ++ gz, .fz _, trivial, .fz _, trivial, .fz _, trivial, .fz _, trivial, .fz _, trivial, .fz _, trivial, hy.cat hpT, by rw [str_len]; omega, hy2, hap.cat c1T, by omega, hap2, rfl, rfl, rfl, rfl, rfl, rfl, rfl, rfl, rfl, rfl, rfl⟩
    · rintro env S ⟨g6, x, y, ap, z, g1, g, a10, a11, a12, a13, a14, a15, h10, h11, h12, h13, h14, h15, hy, hyl, hx, hap, apl, hg, rfl⟩
      walk_at "wp"
      have big : (1000 : Nat) ≤ sizeLine := by decide
      have hxT : Tx ws x := fun c hc => hy c (hx.sub c hc)
      have x3 := hx.three hW
      rw [← len_cps] at x3
      have gl := hx.few hW
      rw [← len_cps] at gl
      refine ⟨_, rfl, look_f, ?_⟩
      refine (rd_fin_ok hW hxT (by omega)).mono ?_
      rintro w S9 ⟨rfl, l, rfl, hl⟩
      have hlm : IsLM ws y.cps.toList (g1 ++ l) := hx.lm hl
      have ll := hlm.len hW
      rw [← len_cps, List.length_append] at ll
      have okG : okE 6 (.lst ((g1 ++ l).map .str)) := by
        refine ⟨by rw [List.length_map, List.length_append]; omega, fun e he => ?_⟩
        obtain ⟨v, hv, rfl⟩ := List.mem_map.mp he
        exact nm_sm hW (hlm.mem v hv)
      show Pu (gCat (.lst (g1.map .str)) (.lst (l.map .str))) _
      rw [gCat_]
      refine ⟨by rw [List.length_map, List.length_map]; omega, ?_⟩
      refine (law_longest_ok hW hy (by omega)).mono ?_
      rintro r S10 ⟨rfl, l2, rfl, hl2⟩
      obtain rfl : l2 = g1 ++ l := isLM_uniq hW hl2 hlm
      rw [← List.map_append]
      refine (equal_refl 6 _ _ okG).mono ?_
      rintro r S11 ⟨rfl, rfl⟩
      rw [dTru_bl, pu_some, Bool.not_true, if_neg Bool.false_ne_true]
      refine ⟨_, rfl, look_h, ?_⟩
      refine rd_held_ok.mono ?_
      rintro r S12 ⟨rfl, rfl⟩
      refine ⟨rfl, ?_⟩
      refine (equal_refl 6 (.str "") _ (show SmS "" from fun c hc => by cases hc)).mono ?_
      rintro r S13 ⟨rfl, rfl⟩
      rw [dTru_bl, pu_some, Bool.not_true, if_neg Bool.false_ne_true]
      refine ⟨_, rfl, look_f, ?_⟩
      refine (rd_fin0_ok hW).mono ?_
      rintro r S14 ⟨rfl, rfl⟩
      refine ⟨rfl, ?_⟩
      refine (equal_refl 6 (.lst []) _ ⟨Nat.zero_le _, fun e he => by cases he⟩).mono ?_
      rintro r S15 ⟨rfl, rfl⟩
      rw [dTru_bl, pu_some, Bool.not_true, if_neg Bool.false_ne_true]
      have hzT : Tx ws z := fun c hc => hap c (hg.sub c hc)
      refine ⟨_, rfl, look_h, ?_⟩
      refine rd_held_ok.mono ?_
      rintro r S16 ⟨rfl, rfl⟩
      refine ⟨rfl, ?_⟩
      refine (law_after_ok hW hap (by omega)).mono ?_
      rintro r S17 ⟨rfl, ga, za, rfl, hga⟩
      obtain ⟨rfl, ez⟩ := gv_uniq hga hg
      obtain rfl : za = z := str_ext ez
      rw [gIxA_tup, at1, pu_some]
      refine (equal_refl 6 (.str za) _ (hzT.sm hW)).mono ?_
      rintro r S18 ⟨rfl, rfl⟩
      rw [dTru_bl, pu_some, Bool.not_true, if_neg Bool.false_ne_true]
      refine ⟨g6, ap, za, ga, .fz _, trivial, .fz _, trivial, .fz _, trivial, a10, h10, a11, h11, a12, h12, a13, h13, a14, h14, a15, h15, .fz _, trivial, hap, by omega, hg, rfl, rfl, rfl, rfl, rfl, rfl, rfl, rfl, rfl, rfl, rfl, rfl, rfl⟩
  · rintro env S ⟨g3, ap, z, g, a7, a8, a9, a10, a11, a12, a13, a14, a15, a16, h7, h8, h9, h10, h11, h12, h13, h14, h15, h16, hap, apl, hg, rfl⟩
    walk_at "wp"
    refine (after_ok hW (x := "") (fun c hc => by cases hc) (by decide)).mono ?_
    rintro r S5 ⟨rfl, ge, ze, rfl, he⟩
    obtain ⟨rfl, ez⟩ := gv_uniq he (show Gv ws [] [] [] from ⟨rfl, .inl rfl⟩)
    obtain rfl : ze = "" := str_ext ez
    refine (equal_refl 6 _ _ ?_).mono ?_
    · refine ⟨by show 2 ≤ 1000; decide, fun e he => ?_⟩
      simp only [List.mem_cons, List.not_mem_nil, or_false] at he
      rcases he with rfl | rfl
      · exact ⟨Nat.zero_le _, fun e he => by cases he⟩
      · exact (show SmS "" from fun c hc => by cases hc)
    rintro r S6 ⟨rfl, rfl⟩
    rfl

end LX

set_option maxHeartbeats 0
namespace LX
open PySem PySem.Spec PyProof.Rows L2 PD
def d_is_word : He.FnD := ⟨("is_word", none), "is_word", "is_word", defArgs s_is_word, defBody s_is_word, defScope s_is_word⟩
def d_is_plain_integer : He.FnD := ⟨("is_plain_integer", none), "is_plain_integer", "is_plain_integer", defArgs s_is_plain_integer, defBody s_is_plain_integer, defScope s_is_plain_integer⟩
def d_is_integer : He.FnD := ⟨("is_integer", none), "is_integer", "is_integer", defArgs s_is_integer, defBody s_is_integer, defScope s_is_integer⟩
def d_is_entry : He.FnD := ⟨("is_entry", none), "is_entry", "is_entry", defArgs s_is_entry, defBody s_is_entry, defScope s_is_entry⟩
def d_is_list : He.FnD := ⟨("is_list", none), "is_list", "is_list", defArgs s_is_list, defBody s_is_list, defScope s_is_list⟩
def d_check_list : He.FnD := ⟨("check_list", none), "check_list", "check_list", defArgs s_check_list, defBody s_check_list, defScope s_check_list⟩
def d_may_grow : He.FnD := ⟨("may_grow", none), "may_grow", "may_grow", defArgs s_may_grow, defBody s_may_grow, defScope s_may_grow⟩
def d_find_starting : He.FnD := ⟨("find_starting", none), "find_starting", "find_starting", defArgs s_find_starting, defBody s_find_starting, defScope s_find_starting⟩
def d_read_letters : He.FnD := ⟨("read_letters", none), "read_letters", "read_letters", defArgs s_read_letters, defBody s_read_letters, defScope s_read_letters⟩
def d_find_letters : He.FnD := ⟨("find_letters", none), "find_letters", "find_letters", defArgs s_find_letters, defBody s_find_letters, defScope s_find_letters⟩
def d_has_letters : He.FnD := ⟨("has_letters", none), "has_letters", "has_letters", defArgs s_has_letters, defBody s_has_letters, defScope s_has_letters⟩
def d_fits : He.FnD := ⟨("fits", none), "fits", "fits", defArgs s_fits, defBody s_fits, defScope s_fits⟩
def d_find_match : He.FnD := ⟨("find_match", none), "find_match", "find_match", defArgs s_find_match, defBody s_find_match, defScope s_find_match⟩
def d__law_next : He.FnD := ⟨("_law_next", none), "_law_next", "_law_next", defArgs s__law_next, defBody s__law_next, defScope s__law_next⟩
def d__law_letters : He.FnD := ⟨("_law_letters", none), "_law_letters", "_law_letters", defArgs s__law_letters, defBody s__law_letters, defScope s__law_letters⟩
def d__law_words : He.FnD := ⟨("_law_words", none), "_law_words", "_law_words", defArgs s__law_words, defBody s__law_words, defScope s__law_words⟩
def d__law_is_integer : He.FnD := ⟨("_law_is_integer", none), "_law_is_integer", "_law_is_integer", defArgs s__law_is_integer, defBody s__law_is_integer, defScope s__law_is_integer⟩
def d__law_equal : He.FnD := ⟨("_law_equal", none), "_law_equal", "_law_equal", defArgs s__law_equal, defBody s__law_equal, defScope s__law_equal⟩
def d_check_text : He.FnD := ⟨("check_text", none), "check_text", "check_text", defArgs s_check_text, defBody s_check_text, defScope s_check_text⟩
def d_after : He.FnD := ⟨("after", none), "after", "after", defArgs s_after, defBody s_after, defScope s_after⟩
def d__law_string : He.FnD := ⟨("_law_string", none), "_law_string", "_law_string", defArgs s__law_string, defBody s__law_string, defScope s__law_string⟩
def d__law_extending : He.FnD := ⟨("_law_extending", none), "_law_extending", "_law_extending", defArgs s__law_extending, defBody s__law_extending, defScope s__law_extending⟩
def d__law_longest : He.FnD := ⟨("_law_longest", none), "_law_longest", "_law_longest", defArgs s__law_longest, defBody s__law_longest, defScope s__law_longest⟩
def d__law_after : He.FnD := ⟨("_law_after", none), "_law_after", "_law_after", defArgs s__law_after, defBody s__law_after, defScope s__law_after⟩
def d__law_told : He.FnD := ⟨("_law_told", none), "_law_told", "_law_told", defArgs s__law_told, defBody s__law_told, defScope s__law_told⟩
def d__law_stream : He.FnD := ⟨("_law_stream", none), "_law_stream", "_law_stream", defArgs s__law_stream, defBody s__law_stream, defScope s__law_stream⟩
def d_law : He.FnD := ⟨("law", none), "law", "law", defArgs s_law, defBody s_law, defScope s_law⟩
def d_i_BadValue : He.FnD := ⟨("BadValue", some "__init__"), "__init__", "BadValue.__init__", defArgs s_BadValue, defBody s_BadValue, defScope s_BadValue⟩
def d_Reader_init : He.FnD := ⟨("Reader", some "__init__"), "__init__", "Reader.__init__", defArgs s_Reader_init, defBody s_Reader_init, defScope s_Reader_init⟩
def d_Reader_read : He.FnD := ⟨("Reader", some "read"), "read", "Reader.read", defArgs s_Reader_read, defBody s_Reader_read, defScope s_Reader_read⟩
def d_Reader_held : He.FnD := ⟨("Reader", some "held"), "held", "Reader.held", defArgs s_Reader_held, defBody s_Reader_held, defScope s_Reader_held⟩
def d_Reader_finish : He.FnD := ⟨("Reader", some "finish"), "finish", "Reader.finish", defArgs s_Reader_finish, defBody s_Reader_finish, defScope s_Reader_finish⟩
def fnL : List He.FnD := [d_is_word, d_is_plain_integer, d_is_integer, d_is_entry, d_is_list, d_check_list, d_may_grow, d_find_starting, d_read_letters, d_find_letters, d_has_letters, d_fits, d_find_match, d__law_next, d__law_letters, d__law_words, d__law_is_integer, d__law_equal, d_check_text, d_after, d__law_string, d__law_extending, d__law_longest, d__law_after, d__law_told, d__law_stream, d_law, d_i_BadValue, d_Reader_init, d_Reader_read, d_Reader_held, d_Reader_finish]
def fa0 : List He.Fa := [.glo "is_word", .glo "is_plain_integer", .glo "is_integer", .glo "is_entry", .glo "is_list", .glo "check_list", .glo "may_grow", .glo "find_starting", .glo "read_letters", .glo "find_letters", .glo "has_letters", .glo "fits", .glo "find_match", .glo "_law_next", .glo "_law_letters", .glo "_law_words", .glo "_law_is_integer", .glo "_law_equal", .glo "check_text", .glo "after", .glo "_law_string", .glo "_law_extending", .glo "_law_longest", .glo "_law_after", .glo "_law_told", .glo "_law_stream", .glo "law", .keep "is_word", .keep "is_plain_integer", .keep "is_integer"]
def fa1 : List He.Fa := [.keep "is_entry", .keep "is_list", .keep "check_list", .keep "may_grow", .keep "find_starting", .keep "read_letters", .keep "find_letters", .keep "has_letters", .keep "fits", .keep "find_match", .keep "_law_next", .keep "_law_letters", .keep "_law_words", .keep "_law_is_integer", .keep "_law_equal", .keep "check_text", .keep "after", .keep "_law_string", .keep "_law_extending", .keep "_law_longest", .keep "_law_after", .keep "_law_told", .keep "_law_stream", .keep "law", .free "abs", .free "all", .free "any", .free "bool", .free "int", .free "isinstance"]
def fa2 : List He.Fa := [.free "len", .free "list", .free "range", .free "set", .free "sorted", .free "str", .free "tuple", .int "DEAREST" 9, .str "LETTERS" "abcdefghijklmnopqrstuvwxyz", .int "LONGEST_TEXT" 30, .int "LONGEST_WORD" 4, .int "MOST_WORDS" 8]
def faL : List He.Fa := fa0 ++ fa1 ++ fa2
abbrev R : PySem.W.OpenRow := PySem.W.OpenLaw.row PySem.Challenge.rw_greedycuts_k38_whole_pieces
def tbL : List (Str × List Str) := []
def exL (K : PySem.W.Frag) : Bool := PDH.xclB K "BadValue" "name" && ((He.Fa.glo "BadValue").ok K && (PDH.exmB K "BadValue" "BadValue" && (PDH.okB K "Reader" ["_words", "_letters"] && (PDH.methB K (He.ga K "Reader") "read" && (PDH.methB K (He.ga K "Reader") "held" && (PDH.methB K (He.ga K "Reader") "finish"))))))
abbrev hk : PySem.W.Hook := PDH.hookB 5 faL fnL tbL exL
def ob (s : PySem.W.SharedT) : PDH.AlT := PDH.obsB 5 faL fnL tbL exL (HandSHeadRun.getT s)
theorem ob_eq (s : PySem.W.SharedT) : ob s = hk.obs s.abs := PDH.obsB_eq (HandSHeadRun.getT_eq s)
def names : List PySem.Str := (["is_plain_integer", "is_integer", "is_word", "is_entry", "is_list", "find_letters", "has_letters", "fits", "check_list", "check_text", "find_starting", "find_match", "may_grow", "read_letters", "after", "_law_stream", "_law_next", "_law_is_integer", "_law_equal", "_law_letters", "_law_string", "_law_words", "_law_longest", "_law_extending", "_law_after", "_law_told", "LETTERS", "MOST_WORDS", "LONGEST_WORD", "DEAREST"] : List PySem.Str) ++ (["LONGEST_TEXT", "CutError", "BadValue", "Reader"] : List PySem.Str)
theorem run (w : World) : HandSHeadRun.RunEq R (PySem.W.view R.prog [40]) hk ob 3000 names w := by
  intro os
  kernel_rfl
theorem fun_of {K : PySem.W.Frag} (c : He.SaysE faL fnL K) {x : Str} {st : Stmt} (i j : Nat) (hd : fnL[i]? = some ⟨(x, none), x, x, defArgs st, defBody st, defScope st⟩ := by rfl) (hj : faL[j]? = some (.keep x) := by rfl) : ∃ fd, Fun K x x st (He.ga K x) fd := by
  obtain ⟨oc, od, osl, kV, doc, pm, an, cdv, ct, h1, h2⟩ := c.def_ i hd
  exact ⟨_, fun_mk h1 h2 (He.keep_ok (c.fact j hj))⟩
theorem fun_init {K : PySem.W.Frag} (c : He.SaysE faL fnL K) {x qual : Str} {st : Stmt} (i : Nat) (kp : PySem.W.keepIn K (.ref (He.ma K (He.ga K x) "__init__")) = true) (hd : fnL[i]? = some ⟨(x, some "__init__"), "__init__", qual, defArgs st, defBody st, defScope st⟩ := by rfl) : ∃ fd, Fun K "__init__" qual st (He.ma K (He.ga K x) "__init__") fd := by
  obtain ⟨oc, od, osl, kV, doc, pm, an, cdv, ct, h1, h2⟩ := c.def_ i hd
  exact ⟨_, fun_mk h1 h2 kp⟩
theorem fun_meth {K : PySem.W.Frag} (c : He.SaysE faL fnL K) {x mn qual : Str} {st : Stmt} (i : Nat) (kp : PySem.W.keepIn K (.ref (He.ma K (He.ga K x) mn)) = true) (hd : fnL[i]? = some ⟨(x, some mn), mn, qual, defArgs st, defBody st, defScope st⟩ := by rfl) : ∃ fd, Fun K mn qual st (He.ma K (He.ga K x) mn) fd := by
  obtain ⟨oc, od, osl, kV, doc, pm, an, cdv, ct, h1, h2⟩ := c.def_ i hd
  exact ⟨_, fun_mk h1 h2 kp⟩
theorem law_binds {K : PySem.W.Frag} {x : Str} {st : Stmt} {f : Addr} {fd : FuncData} (F : Fun K x x st f fd) {p : Str} (h : ∀ (kV doc pm : Value) (an : Option Addr) (cdv ct : Value) (v : Value), bindArgs (PySem.W.fnOf x x (defArgs st) (defBody st) (defScope st) .none kV doc pm an cdv ct) ⟨[v], []⟩ = pure [(p, v)]) (s : Shared) (v : Value) : BindsTo s fd ⟨[v], []⟩ [(p, v)] := by
  obtain ⟨oc, od, kV, doc, pm, an, cdv, ct, osl, rfl, lk, hcd⟩ := F.ex
  exact .of_eq (h kV doc pm an cdv ct v)
def fAt (K : PySem.W.Frag) : Nat → Addr
  | 11 => He.ga K "is_word"
  | 9 => He.ga K "is_plain_integer"
  | 10 => He.ga K "is_integer"
  | 12 => He.ga K "is_entry"
  | 13 => He.ga K "is_list"
  | 17 => He.ga K "check_list"
  | 24 => He.ga K "may_grow"
  | 20 => He.ga K "find_starting"
  | 25 => He.ga K "read_letters"
  | 14 => He.ga K "find_letters"
  | 15 => He.ga K "has_letters"
  | 16 => He.ga K "fits"
  | 22 => He.ga K "find_match"
  | 30 => He.ga K "_law_next"
  | 33 => He.ga K "_law_letters"
  | 35 => He.ga K "_law_words"
  | 31 => He.ga K "_law_is_integer"
  | 32 => He.ga K "_law_equal"
  | 18 => He.ga K "check_text"
  | 26 => He.ga K "after"
  | 34 => He.ga K "_law_string"
  | 37 => He.ga K "_law_extending"
  | 36 => He.ga K "_law_longest"
  | 38 => He.ga K "_law_after"
  | 39 => He.ga K "_law_told"
  | 29 => He.ga K "_law_stream"
  | 40 => He.ga K "law"
  | 2 => He.ga K "BadValue"
  | 1002 => He.ma K (He.ga K "BadValue") "__init__"
  | 27 => He.ga K "Reader"
  | 1027 => He.ma K (He.ga K "Reader") "__init__"
  | 3351 => He.ma K (He.ga K "Reader") "read"
  | 3352 => He.ma K (He.ga K "Reader") "held"
  | 3353 => He.ma K (He.ga K "Reader") "finish"
  | _ => 0
def fDt (d11 d9 d10 d12 d13 d17 d24 d20 d25 d14 d15 d16 d22 d30 d33 d35 d31 d32 d18 d26 d34 d37 d36 d38 d39 d29 d40 d1002 d1027 d3351 d3352 d3353 : FuncData) : Nat → FuncData
  | 11 => d11
  | 9 => d9
  | 10 => d10
  | 12 => d12
  | 13 => d13
  | 17 => d17
  | 24 => d24
  | 20 => d20
  | 25 => d25
  | 14 => d14
  | 15 => d15
  | 16 => d16
  | 22 => d22
  | 30 => d30
  | 33 => d33
  | 35 => d35
  | 31 => d31
  | 32 => d32
  | 18 => d18
  | 26 => d26
  | 34 => d34
  | 37 => d37
  | 36 => d36
  | 38 => d38
  | 39 => d39
  | 29 => d29
  | 40 => d40
  | 1002 => d1002
  | 1027 => d1027
  | 3351 => d3351
  | 3352 => d3352
  | 3353 => d3353
  | _ => d40
theorem facts {P : Program} {w : World} {K : PySem.W.Frag} {h : Heap} {mg : Str → Option Value} {f : Addr} (hm : ∀ (C : Nat) (ns : List Int), ns.length ≤ 63 → ∃ S', m_law C (lawE n_law) ⟨ns, 0, 0⟩ = some (.rt (.bl true), S')) (X : K.In h) (G : h.Ns mainGlobals mg) (hfa : mg ("law" : Str) = some (.ref f)) (c : He.SaysE faL fnL K) (ct : PDH.tabs tbL K = true) (cx : exL K = true) :
    ∃ fd : FuncData, (∀ (s : Shared) (v : Value), BindsTo s fd ⟨[v], []⟩ [("script", v)]) ∧ ∀ base : Heap, K.In base → base.Ns mainGlobals mg → FnOk P w K mg base CX0 10 f fd ["script"] (spLaw K) := by
  have e := hfa.symm.trans (He.glo_ok X G (c.fact 26 (f := .glo "law") rfl))
  cases e
  obtain ⟨d11, F11⟩ := fun_of c (x := "is_word") (st := s_is_word) 0 27
  obtain ⟨d9, F9⟩ := fun_of c (x := "is_plain_integer") (st := s_is_plain_integer) 1 28
  obtain ⟨d10, F10⟩ := fun_of c (x := "is_integer") (st := s_is_integer) 2 29
  obtain ⟨d12, F12⟩ := fun_of c (x := "is_entry") (st := s_is_entry) 3 30
  obtain ⟨d13, F13⟩ := fun_of c (x := "is_list") (st := s_is_list) 4 31
  obtain ⟨d17, F17⟩ := fun_of c (x := "check_list") (st := s_check_list) 5 32
  obtain ⟨d24, F24⟩ := fun_of c (x := "may_grow") (st := s_may_grow) 6 33
  obtain ⟨d20, F20⟩ := fun_of c (x := "find_starting") (st := s_find_starting) 7 34
  obtain ⟨d25, F25⟩ := fun_of c (x := "read_letters") (st := s_read_letters) 8 35
  obtain ⟨d14, F14⟩ := fun_of c (x := "find_letters") (st := s_find_letters) 9 36
  obtain ⟨d15, F15⟩ := fun_of c (x := "has_letters") (st := s_has_letters) 10 37
  obtain ⟨d16, F16⟩ := fun_of c (x := "fits") (st := s_fits) 11 38
  obtain ⟨d22, F22⟩ := fun_of c (x := "find_match") (st := s_find_match) 12 39
  obtain ⟨d30, F30⟩ := fun_of c (x := "_law_next") (st := s__law_next) 13 40
  obtain ⟨d33, F33⟩ := fun_of c (x := "_law_letters") (st := s__law_letters) 14 41
  obtain ⟨d35, F35⟩ := fun_of c (x := "_law_words") (st := s__law_words) 15 42
  obtain ⟨d31, F31⟩ := fun_of c (x := "_law_is_integer") (st := s__law_is_integer) 16 43
  obtain ⟨d32, F32⟩ := fun_of c (x := "_law_equal") (st := s__law_equal) 17 44
  obtain ⟨d18, F18⟩ := fun_of c (x := "check_text") (st := s_check_text) 18 45
  obtain ⟨d26, F26⟩ := fun_of c (x := "after") (st := s_after) 19 46
  obtain ⟨d34, F34⟩ := fun_of c (x := "_law_string") (st := s__law_string) 20 47
  obtain ⟨d37, F37⟩ := fun_of c (x := "_law_extending") (st := s__law_extending) 21 48
  obtain ⟨d36, F36⟩ := fun_of c (x := "_law_longest") (st := s__law_longest) 22 49
  obtain ⟨d38, F38⟩ := fun_of c (x := "_law_after") (st := s__law_after) 23 50
  obtain ⟨d39, F39⟩ := fun_of c (x := "_law_told") (st := s__law_told) 24 51
  obtain ⟨d29, F29⟩ := fun_of c (x := "_law_stream") (st := s__law_stream) 25 52
  obtain ⟨d40, F40⟩ := fun_of c (x := "law") (st := s_law) 26 53
  obtain ⟨cx0, cx⟩ := He.ba cx
  obtain ⟨cx1, cx⟩ := He.ba cx
  obtain ⟨cx2, cx⟩ := He.ba cx
  obtain ⟨cx3, cx⟩ := He.ba cx
  obtain ⟨cx4, cx⟩ := He.ba cx
  obtain ⟨cx5, cx⟩ := He.ba cx
  have cx6 := cx
  obtain ⟨hX0, kX0⟩ := PDH.xcl_ok X G cx0
  obtain ⟨d1002, F1002⟩ := fun_init c (x := "BadValue") (qual := "BadValue.__init__") (st := s_BadValue) 27 kX0
  obtain ⟨hO0, kO0⟩ := PDH.okB_ok X G cx3
  obtain ⟨d1027, F1027⟩ := fun_meth c (x := "Reader") (mn := "__init__") (qual := "Reader.__init__") (st := s_Reader_init) 28 kO0
  have hM3351 := PDH.methB_ok cx4
  obtain ⟨d3351, F3351⟩ := fun_meth c (x := "Reader") (mn := "read") (qual := "Reader.read") (st := s_Reader_read) 29 hM3351.kp
  have hM3352 := PDH.methB_ok cx5
  obtain ⟨d3352, F3352⟩ := fun_meth c (x := "Reader") (mn := "held") (qual := "Reader.held") (st := s_Reader_held) 30 hM3352.kp
  have hM3353 := PDH.methB_ok cx6
  obtain ⟨d3353, F3353⟩ := fun_meth c (x := "Reader") (mn := "finish") (qual := "Reader.finish") (st := s_Reader_finish) 31 hM3353.kp
  have T : Top K mg (fAt K) (fDt d11 d9 d10 d12 d13 d17 d24 d20 d25 d14 d15 d16 d22 d30 d33 d35 d31 d32 d18 d26 d34 d37 d36 d38 d39 d29 d40 d1002 d1027 d3351 d3352 d3353) := {
    x_BadValue := hX0
    F_BadValue := F1002
    b_BadValue := Fun.binds (ps := ["self", "name"]) F1002 fun _ _ _ _ _ _ us hl => match us, hl with | [_, _], _ => rfl
    o_Reader := hO0
    F_Reader_init := F1027
    b_Reader_init := Fun.binds (ps := ["self", "words"]) F1027 fun _ _ _ _ _ _ us hl => match us, hl with | [_, _], _ => rfl
    M_Reader_read := hM3351
    F_Reader_read := F3351
    b_Reader_read := Fun.binds (ps := ["self", "piece"]) F3351 fun _ _ _ _ _ _ us hl => match us, hl with | [_, _], _ => rfl
    M_Reader_held := hM3352
    F_Reader_held := F3352
    b_Reader_held := Fun.binds (ps := ["self"]) F3352 fun _ _ _ _ _ _ us hl => match us, hl with | [_], _ => rfl
    M_Reader_finish := hM3353
    F_Reader_finish := F3353
    b_Reader_finish := Fun.binds (ps := ["self"]) F3353 fun _ _ _ _ _ _ us hl => match us, hl with | [_], _ => rfl
    gc_BadValue := He.glo_ok X G cx1
    e_BadValue_BadValue := of_decide_eq_true cx2
    F_is_word := F11
    b_is_word := Fun.binds (ps := ["value"]) F11 fun _ _ _ _ _ _ us hl => match us, hl with | [_], _ => rfl
    g_is_word := He.glo_ok X G (c.fact 0 (f := .glo "is_word") rfl)
    F_is_plain_integer := F9
    b_is_plain_integer := Fun.binds (ps := ["value"]) F9 fun _ _ _ _ _ _ us hl => match us, hl with | [_], _ => rfl
    g_is_plain_integer := He.glo_ok X G (c.fact 1 (f := .glo "is_plain_integer") rfl)
    F_is_integer := F10
    b_is_integer := Fun.binds (ps := ["value", "low", "high"]) F10 fun _ _ _ _ _ _ us hl => match us, hl with | [_, _, _], _ => rfl
    g_is_integer := He.glo_ok X G (c.fact 2 (f := .glo "is_integer") rfl)
    F_is_entry := F12
    b_is_entry := Fun.binds (ps := ["value"]) F12 fun _ _ _ _ _ _ us hl => match us, hl with | [_], _ => rfl
    g_is_entry := He.glo_ok X G (c.fact 3 (f := .glo "is_entry") rfl)
    F_is_list := F13
    b_is_list := Fun.binds (ps := ["value"]) F13 fun _ _ _ _ _ _ us hl => match us, hl with | [_], _ => rfl
    g_is_list := He.glo_ok X G (c.fact 4 (f := .glo "is_list") rfl)
    F_check_list := F17
    b_check_list := Fun.binds (ps := ["words"]) F17 fun _ _ _ _ _ _ us hl => match us, hl with | [_], _ => rfl
    g_check_list := He.glo_ok X G (c.fact 5 (f := .glo "check_list") rfl)
    F_may_grow := F24
    b_may_grow := Fun.binds (ps := ["words", "text", "index"]) F24 fun _ _ _ _ _ _ us hl => match us, hl with | [_, _, _], _ => rfl
    g_may_grow := He.glo_ok X G (c.fact 6 (f := .glo "may_grow") rfl)
    F_find_starting := F20
    b_find_starting := Fun.binds (ps := ["words", "text", "index"]) F20 fun _ _ _ _ _ _ us hl => match us, hl with | [_, _, _], _ => rfl
    g_find_starting := He.glo_ok X G (c.fact 7 (f := .glo "find_starting") rfl)
    F_read_letters := F25
    b_read_letters := Fun.binds (ps := ["words", "held", "letters"]) F25 fun _ _ _ _ _ _ us hl => match us, hl with | [_, _, _], _ => rfl
    g_read_letters := He.glo_ok X G (c.fact 8 (f := .glo "read_letters") rfl)
    F_find_letters := F14
    b_find_letters := Fun.binds (ps := ["words"]) F14 fun _ _ _ _ _ _ us hl => match us, hl with | [_], _ => rfl
    g_find_letters := He.glo_ok X G (c.fact 9 (f := .glo "find_letters") rfl)
    F_has_letters := F15
    b_has_letters := Fun.binds (ps := ["words", "value"]) F15 fun _ _ _ _ _ _ us hl => match us, hl with | [_, _], _ => rfl
    g_has_letters := He.glo_ok X G (c.fact 10 (f := .glo "has_letters") rfl)
    F_fits := F16
    b_fits := Fun.binds (ps := ["words", "value"]) F16 fun _ _ _ _ _ _ us hl => match us, hl with | [_, _], _ => rfl
    g_fits := He.glo_ok X G (c.fact 11 (f := .glo "fits") rfl)
    F_find_match := F22
    b_find_match := Fun.binds (ps := ["words", "text", "index"]) F22 fun _ _ _ _ _ _ us hl => match us, hl with | [_, _, _], _ => rfl
    g_find_match := He.glo_ok X G (c.fact 12 (f := .glo "find_match") rfl)
    F__law_next := F30
    b__law_next := Fun.binds (ps := ["stream", "many"]) F30 fun _ _ _ _ _ _ us hl => match us, hl with | [_, _], _ => rfl
    g__law_next := He.glo_ok X G (c.fact 13 (f := .glo "_law_next") rfl)
    F__law_letters := F33
    b__law_letters := Fun.binds (ps := ["stream"]) F33 fun _ _ _ _ _ _ us hl => match us, hl with | [_], _ => rfl
    g__law_letters := He.glo_ok X G (c.fact 14 (f := .glo "_law_letters") rfl)
    F__law_words := F35
    b__law_words := Fun.binds (ps := ["stream", "letters"]) F35 fun _ _ _ _ _ _ us hl => match us, hl with | [_, _], _ => rfl
    g__law_words := He.glo_ok X G (c.fact 15 (f := .glo "_law_words") rfl)
    F__law_is_integer := F31
    b__law_is_integer := Fun.binds (ps := ["actual"]) F31 fun _ _ _ _ _ _ us hl => match us, hl with | [_], _ => rfl
    g__law_is_integer := He.glo_ok X G (c.fact 16 (f := .glo "_law_is_integer") rfl)
    F__law_equal := F32
    b__law_equal := Fun.binds (ps := ["actual", "due"]) F32 fun _ _ _ _ _ _ us hl => match us, hl with | [_, _], _ => rfl
    g__law_equal := He.glo_ok X G (c.fact 17 (f := .glo "_law_equal") rfl)
    F_check_text := F18
    b_check_text := Fun.binds (ps := ["words", "text"]) F18 fun _ _ _ _ _ _ us hl => match us, hl with | [_, _], _ => rfl
    g_check_text := He.glo_ok X G (c.fact 18 (f := .glo "check_text") rfl)
    F_after := F26
    b_after := Fun.binds (ps := ["words", "text"]) F26 fun _ _ _ _ _ _ us hl => match us, hl with | [_, _], _ => rfl
    g_after := He.glo_ok X G (c.fact 19 (f := .glo "after") rfl)
    F__law_string := F34
    b__law_string := Fun.binds (ps := ["stream", "letters", "most"]) F34 fun _ _ _ _ _ _ us hl => match us, hl with | [_, _, _], _ => rfl
    g__law_string := He.glo_ok X G (c.fact 20 (f := .glo "_law_string") rfl)
    F__law_extending := F37
    b__law_extending := Fun.binds (ps := ["words", "held"]) F37 fun _ _ _ _ _ _ us hl => match us, hl with | [_, _], _ => rfl
    g__law_extending := He.glo_ok X G (c.fact 21 (f := .glo "_law_extending") rfl)
    F__law_longest := F36
    b__law_longest := Fun.binds (ps := ["words", "text"]) F36 fun _ _ _ _ _ _ us hl => match us, hl with | [_, _], _ => rfl
    g__law_longest := He.glo_ok X G (c.fact 22 (f := .glo "_law_longest") rfl)
    F__law_after := F38
    b__law_after := Fun.binds (ps := ["words", "text"]) F38 fun _ _ _ _ _ _ us hl => match us, hl with | [_, _], _ => rfl
    g__law_after := He.glo_ok X G (c.fact 23 (f := .glo "_law_after") rfl)
    F__law_told := F39
    b__law_told := Fun.binds (ps := ["reader", "piece"]) F39 fun _ _ _ _ _ _ us hl => match us, hl with | [_, _], _ => rfl
    g__law_told := He.glo_ok X G (c.fact 24 (f := .glo "_law_told") rfl)
    F__law_stream := F29
    b__law_stream := Fun.binds (ps := ["script"]) F29 fun _ _ _ _ _ _ us hl => match us, hl with | [_], _ => rfl
    g__law_stream := He.glo_ok X G (c.fact 25 (f := .glo "_law_stream") rfl)
    F_law := F40
    b_law := Fun.binds (ps := ["script"]) F40 fun _ _ _ _ _ _ us hl => match us, hl with | [_], _ => rfl
    g_law := He.glo_ok X G (c.fact 26 (f := .glo "law") rfl)
    z_abs := He.free_ok X G (c.fact 54 (f := .free "abs") rfl)
    z_all := He.free_ok X G (c.fact 55 (f := .free "all") rfl)
    z_any := He.free_ok X G (c.fact 56 (f := .free "any") rfl)
    z_bool := He.free_ok X G (c.fact 57 (f := .free "bool") rfl)
    z_int := He.free_ok X G (c.fact 58 (f := .free "int") rfl)
    z_isinstance := He.free_ok X G (c.fact 59 (f := .free "isinstance") rfl)
    z_len := He.free_ok X G (c.fact 60 (f := .free "len") rfl)
    z_list := He.free_ok X G (c.fact 61 (f := .free "list") rfl)
    z_range := He.free_ok X G (c.fact 62 (f := .free "range") rfl)
    z_set := He.free_ok X G (c.fact 63 (f := .free "set") rfl)
    z_sorted := He.free_ok X G (c.fact 64 (f := .free "sorted") rfl)
    z_str := He.free_ok X G (c.fact 65 (f := .free "str") rfl)
    z_tuple := He.free_ok X G (c.fact 66 (f := .free "tuple") rfl)
    c_DEAREST := He.int_ok X G (c.fact 67 rfl)
    c_LETTERS := He.str_ok X G (c.fact 68 rfl)
    c_LONGEST_TEXT := He.int_ok X G (c.fact 69 rfl)
    c_LONGEST_WORD := He.int_ok X G (c.fact 70 rfl)
    c_MOST_WORDS := He.int_ok X G (c.fact 71 rfl)
  }
  exact ⟨d40, law_binds F40 fun _ _ _ _ _ _ _ => rfl, fun base _ _ => ok_law T hm⟩
end LX
open PySem PySem.W PyProof.Rows
theorem LX.end_ (hm : ∀ (C : Nat) (ns : List Int), ns.length ≤ 63 → ∃ S', LX.m_law C (PD.lawE LX.n_law) ⟨ns, 0, 0⟩ = some (.rt (.bl true), S')) : PySem.Challenge.rw_greedycuts_k38_whole_pieces.Holds := by
  w_on; o_law
  refine HandSHeadRun.head_any (r := OpenLaw.row PySem.Challenge.rw_greedycuts_k38_whole_pieces) (q := view (OpenLaw.row PySem.Challenge.rw_greedycuts_k38_whole_pieces).prog [40]) (H := LX.hk) (ob := LX.ob) (M := 3000) (loose := LX.names) (d := HandSHeadRun.topDef (OpenLaw.row PySem.Challenge.rw_greedycuts_k38_whole_pieces).prog 40) (kwd := []) LX.ob_eq
    (by kernel_rfl) (fun s => by kernel_rfl) LX.run (by kernel_rfl) (by kernel_rfl) (by kernel_rfl) (by rfl) (by first | assumption | decide +kernel) (by decide +kernel) ⟨rfl, rfl, rfl, rfl, rfl, by decide +kernel⟩ ?hw ?hc
  case hw => w_witness2
  case hc =>
    refine L2.walk_ofE (l := PySem.Challenge.rw_greedycuts_k38_whole_pieces) (n := 63) (k := 10) (x := "script") (CX := L2.CX0) rfl (by decide) (by kernel_rfl) ⟨rfl, by decide, by decide⟩ ?F (fun _ _ _ _ z => z)
    intro w mg fa h Y G hmg0
    obtain ⟨K, KX, c, ct, cx⟩ := Y
    have hmg : mg ("law" : PySem.Str) = some (.ref fa) := by
      have e : (HandSHeadRun.topDef (OpenLaw.row PySem.Challenge.rw_greedycuts_k38_whole_pieces).prog 40).name = ("law" : PySem.Str) := by kernel_rfl
      rw [← e]
      exact hmg0
    obtain ⟨fd, hb, hF⟩ := LX.facts (P := (PySem.Challenge.rw_greedycuts_k38_whole_pieces).prog) (w := w) hm KX G hmg c ct cx
    exact ⟨K, fd, PD.spLaw K, KX, hb, fun H a ns hl _ hS => ⟨a, ns, rfl, hS, hl, fun _ => rfl⟩, hF⟩

theorem PySem.Challenge.cw_greedycuts_k38_whole_pieces_holds : PySem.Challenge.rw_greedycuts_k38_whole_pieces.Holds := by
  exact LX.end_ LX.law_ok
