import PyProof.Rows.All
import Wide.All
import OpenK.AllK
import Wide.FinOn
import HandS.ForMost
import HandS.ForExc
import HandS.TupAny
import HandS.TupMul
import HandS.TupLe
import HandS.IsInst
import HandS.Deep
import HandS.Wide
import HandS.SortInts
import HandS.Walk
import HandS.ExcInit
import HandS.ExcField
import HandS.TryMany
import HandS.CallSlots
import HandS.Conv
import HandS.More
import HandS.Style
import HandS.RaiseMore
import HandS.Flow
import HandS.SlotsOwn
import HandS.SetBool
import HandS.Strs
import KE.GoesSet
import KE.GoesEnum
import HandS.Iter
import HandS.SortOrd
import HandS.SortRule
import KE.KSortTup
import PyProof.FactsAll.object_2
import PyProof.EnumStmt
import HandS.Gcd
import KE.KMathGC
import HandS.ExcValue
import HandS.ExcIs
import KE.KExcIs
import HandS.MapObj
import KE.DataFind
import HandS.SetFor
import HandS.OwnEq
import HandS.TupSets
import KE.GoesMore
import HandS.Zip
import HandS.Dict
import PySem.Challenge.RW_markfilters_k31_whole_prints_told
set_option Elab.async false
set_option linter.all false
set_option maxRecDepth 100000
namespace MK
open PySem L2
inductive IV where
  | non | bl (b : Bool) | int (i : Int) | str (x : Str)
  | tup (l : List IV) | lst (l : List IV)
  | scr (l : List IV)
  | obj (c : Str) (fs : List (Str × IV))
  | cell (n : Nat)
  | exn (a : Addr) (cls : Value) (d : Addr) (f : Str) (v : IV) (c : Str)
instance : Inhabited IV := ⟨.non⟩
inductive CV where
  | lst (l : List IV)
  | ins (c : Str) (fs : List (Str × IV))
abbrev Sto := List CV
inductive OX (α : Type) where
  | val (a : α)
  | exc (c : Str) (f : Str) (v : IV)
abbrev Loc := List (Option IV)
inductive Fl where
  | nx (l : Loc)
  | rt (v : IV)
  | bk (l : Loc)
  | ct (l : Loc)
  | ex (l : Loc) (c f : Str) (v : IV)
def M (α : Type) := Sto → Option (OX α × Sto)
def M.ret {α : Type} (a : α) : M α := fun st => some (.val a, st)
def M.stuck {α : Type} : M α := fun _ => none
def M.exc {α : Type} (c f : Str) (v : IV) : M α := fun st => some (.exc c f v, st)
def M.bind {α β : Type} (m : M α) (k : α → M β) : M β := fun st => match m st with
  | some (.val a, st') => k a st'
  | some (.exc c f v, st') => some (.exc c f v, st')
  | none => none
def M.opt {α : Type} : Option α → M α
  | some a => M.ret a
  | none => M.stuck
abbrev ME := Loc → M IV
abbrev MT := Loc → M Bool
abbrev MA := Loc → M (List IV)
abbrev MS := Loc → M Fl
abbrev MF := List IV → M IV
section
variable {α β : Type}
theorem M.bind_run {m : M α} {k : α → M β} {st st' : Sto} {a : α} (h : m st = some (.val a, st')) : M.bind m k st = k a st' := by
  unfold M.bind; rw [h]
theorem M.bind_run_exc {m : M α} {k : α → M β} {st st' : Sto} {c f : Str} {v : IV} (h : m st = some (.exc c f v, st')) : M.bind m k st = some (.exc c f v, st') := by
  unfold M.bind; rw [h]
theorem M.bind_inv {m : M α} {k : α → M β} {st st' : Sto} {r : OX β} (h : M.bind m k st = some (r, st')) :
    (∃ a st1, m st = some (.val a, st1) ∧ k a st1 = some (r, st')) ∨ (∃ c f v, m st = some (.exc c f v, st') ∧ r = .exc c f v) := by
  unfold M.bind at h
  cases e : m st with
  | none => rw [e] at h; cases h
  | some p =>
    obtain ⟨o, s1⟩ := p
    rw [e] at h
    cases o with
    | val a => exact .inl ⟨a, s1, rfl, h⟩
    | exc c f v =>
      simp only [Option.some.injEq, Prod.mk.injEq] at h
      obtain ⟨rfl, rfl⟩ := h
      exact .inr ⟨c, f, v, rfl, rfl⟩
end
structure Wd where
  cm : List Addr
  av : List Addr
  sub : ∀ c, c ∈ cm → c ∈ av
def Wd.push (w : Wd) (p : Addr) : Wd := ⟨w.cm ++ [p], p :: w.av, fun c h => by
  rcases List.mem_append.mp h with h | h
  · exact List.mem_cons_of_mem _ (w.sub c h)
  · simp at h; subst h; exact List.mem_cons_self⟩
def Wd.avoid (w : Wd) (p : Addr) : Wd := ⟨w.cm, p :: w.av, fun c h => List.mem_cons_of_mem _ (w.sub c h)⟩
mutual
def IV.pure : IV → Bool
  | .tup l => pureL l
  | .lst l => pureL l
  | .scr l => pureL l
  | .obj _ fs => pureF fs
  | .cell _ => false
  | .exn .. => false
  | _ => true
def pureL : List IV → Bool
  | [] => true
  | x :: xs => x.pure && pureL xs
def pureF : List (Str × IV) → Bool
  | [] => true
  | x :: xs => x.2.pure && pureF xs
end
def XF (K : PySem.W.Frag) (C : Addr) (f : Str) : Prop := XfC K C ∧ PySem.W.findIn K (.ref C) f = some none
def errO (a C d : Addr) : HO := .ext fun h => ∃ (oe : Obj) (vs : Array Value), h.get? a = some oe ∧ Zc (.ref C) (some d) oe ∧ oe.data = .fields vs
@[reducible] def errI (c f : Str) (v : IV) : IV := .exn 0 (.str c 0) 0 f v c
def FzL (cm : Wd) (H : Hp) (a : Addr) (xs : List V) : Prop := H a = some (.lst xs) ∧ a ∉ cm.av
def FzT (K : PySem.W.Frag) (cm : Wd) (H : Hp) (a : Addr) (xs : List V) : Prop :=
  (Rd H a (.tup xs) ∧ a ∉ cm.av) ∨
    ∃ (o : Obj) (its : Array Value) (n : Nat), K.lookup a = some o ∧ o.cls = .type "tuple" ∧ o.data = .seq its n ∧ its.size ≤ sizeLine ∧ Vals xs its.toList
theorem FzL.sq {K : PySem.W.Frag} {cm : Wd} {H : Hp} {a : Addr} {xs : List V} (h : FzL cm H a xs) : SqL K H a xs := SqL.of h.1
theorem FzT.sq {K : PySem.W.Frag} {cm : Wd} {H : Hp} {a : Addr} {xs : List V} (h : FzT K cm H a xs) : SqT K H a xs := h.imp (·.1) id
def FzS (K : PySem.W.Frag) (cm : Wd) (H : Hp) (a : Addr) (xs : List V) : Prop :=
  ((∃ o, H a = some (.frz o (.lst xs))) ∧ a ∉ cm.av) ∨
    ∃ (o : Obj) (its : Array Value) (n : Nat), K.lookup a = some o ∧ o.cls = .type "list" ∧ o.dict = none ∧ o.data = .seq its n ∧ its.size ≤ sizeLine ∧ Vals xs its.toList
theorem FzS.sq {K : PySem.W.Frag} {cm : Wd} {H : Hp} {a : Addr} {xs : List V} (h : FzS K cm H a xs) : SqL K H a xs := h.imp (fun h => .inr h.1) id
section
variable (K : PySem.W.Frag) (mg : Str → Option Value)
mutual
inductive Rep (cm : Wd) (H : Hp) : V → IV → Prop
  | non : Rep cm H .non .non
  | bl (b : Bool) : Rep cm H (.bl b) (.bl b)
  | int (i : Int) : Rep cm H (.int i) (.int i)
  | str (x : Str) : Rep cm H (.str x) (.str x)
  | tup {a : Addr} {xs : List V} {l : List IV} : FzT K cm H a xs → RepL cm H xs l → Rep cm H (.ref a) (.tup l)
  | lst {a : Addr} {xs : List V} {l : List IV} : FzL cm H a xs → RepL cm H xs l → Rep cm H (.ref a) (.lst l)
  | scr {a : Addr} {xs : List V} {l : List IV} : FzS K cm H a xs → RepL cm H xs l → Rep cm H (.ref a) (.scr l)
  | obj {a C dx : Addr} {c : Str} {fs' : List (Str × V)} {fs : List (Str × IV)} : mg c = some (.ref C) → H a = some (.ins C dx fs') → a ∉ cm.av → RepF cm H fs' fs → Rep cm H (.ref a) (.obj c fs)
  | cell {a : Addr} {n : Nat} : cm.cm[n]? = some a → Rep cm H (.ref a) (.cell n)
  | exn {a d C : Addr} {c f : Str} {y : V} {v : IV} : mg c = some (.ref C) → XF K C f → H d = some (.xd [(f, y)]) → d ∉ cm.av → Rep cm H y v → Rep cm H (.ref a) (.exn a (.ref C) d f v c)
  | rng {a : Addr} {hi : Int} : H a = some (.rng 0 hi) → a ∉ cm.av → Rep cm H (.ref a) (.exn 0 .none 0 "" (.int hi) "")
  | err {a d C : Addr} {c f : Str} {y : V} {v : IV} : mg c = some (.ref C) → XF K C f → H a = some (errO a C d) → a ∉ cm.av → H d = some (.xd [(f, y)]) → d ∉ cm.av → Rep cm H y v → Rep cm H (.ref a) (errI c f v)
inductive RepL (cm : Wd) (H : Hp) : List V → List IV → Prop
  | nil : RepL cm H [] []
  | cons {x : V} {xs : List V} {v : IV} {l : List IV} : Rep cm H x v → RepL cm H xs l → RepL cm H (x :: xs) (v :: l)
inductive RepF (cm : Wd) (H : Hp) : List (Str × V) → List (Str × IV) → Prop
  | nil : RepF cm H [] []
  | cons {f : Str} {x : V} {xs : List (Str × V)} {v : IV} {l : List (Str × IV)} : Rep cm H x v → RepF cm H xs l → RepF cm H ((f, x) :: xs) ((f, v) :: l)
end
end
structure Ext (cm : Wd) (H : Hp) (cm' : Wd) (H' : Hp) : Prop where
  pre : ∃ l, cm'.cm = cm.cm ++ l
  fr : ∀ a o, H a = some o → a ∉ cm.cm → H' a = some o
  av : ∀ a o, H a = some o → a ∉ cm.av → a ∉ cm'.av
  new : ∀ a o, H a = some o → a ∉ cm.cm → a ∉ cm'.cm
  keep : ∀ a, a ∈ cm.av → a ∈ cm'.av
theorem Ext.refl (cm : Wd) (H : Hp) : Ext cm H cm H := ⟨⟨[], by simp⟩, fun _ _ h _ => h, fun _ _ _ n => n, fun _ _ _ n => n, fun _ h => h⟩
theorem Ext.trans {cm cm1 cm2 : Wd} {H H1 H2 : Hp} (a : Ext cm H cm1 H1) (b : Ext cm1 H1 cm2 H2) : Ext cm H cm2 H2 := by
  obtain ⟨l, e⟩ := a.pre
  obtain ⟨l', e'⟩ := b.pre
  refine ⟨⟨l ++ l', by rw [e', e, List.append_assoc]⟩, fun c o h n => ?_, fun c o h n => ?_, fun c o h n => ?_, fun c h => b.keep c (a.keep c h)⟩
  · exact b.fr c o (a.fr c o h n) (a.new c o h n)
  · exact b.av c o (a.fr c o h fun z => n (cm.sub c z)) (a.av c o h n)
  · exact b.new c o (a.fr c o h n) (a.new c o h n)
theorem Ext.mk' {cm : Wd} {H H' : Hp} (h : ∀ a o, H a = some o → a ∉ cm.cm → H' a = some o) : Ext cm H cm H' := ⟨⟨[], by simp⟩, h, fun _ _ _ n => n, fun _ _ _ n => n, fun _ h => h⟩
theorem Ext.new' {cm : Wd} {H : Hp} {p : Addr} {o : HO} (h : H p = none) : Ext cm H cm (upd H p o) :=
  Ext.mk' fun a u e n => by rw [upd_ne (ne_of_none e h)]; exact e
theorem Ext.set {cm : Wd} {H : Hp} {p : Addr} {o : HO} (h : p ∈ cm.cm) : Ext cm H cm (upd H p o) :=
  Ext.mk' fun a u e n => by rw [upd_ne (fun z => n (by rw [z]; exact h))]; exact e
theorem Ext.same {cm : Wd} {H H' : Hp} (h : Same H H') : Ext cm H cm H' := Ext.mk' fun a u e n => h a u e
section
variable {K : PySem.W.Frag} {mg : Str → Option Value} {cm cm' : Wd} {H H' : Hp}
theorem Ext.at2 (e : Ext cm H cm' H') {a : Addr} {u : HO} (h : H a = some u) (n : a ∉ cm.av) : H' a = some u ∧ a ∉ cm'.av := ⟨e.fr _ _ h fun z => n (cm.sub _ z), e.av _ _ h n⟩
theorem Ext.rd (e : Ext cm H cm' H') {a : Addr} {u : HO} (h : Rd H a u) (n : a ∉ cm.av) : Rd H' a u ∧ a ∉ cm'.av := by
  rcases h with h | ⟨o, h⟩
  · exact ⟨.inl (e.at2 h n).1, (e.at2 h n).2⟩
  · exact ⟨.inr ⟨o, (e.at2 h n).1⟩, (e.at2 h n).2⟩
theorem Ext.fzT (e : Ext cm H cm' H') {a : Addr} {xs : List V} (h : FzT K cm H a xs) : FzT K cm' H' a xs := h.imp (fun h => e.rd h.1 h.2) id
theorem Ext.fzS (e : Ext cm H cm' H') {a : Addr} {xs : List V} (h : FzS K cm H a xs) : FzS K cm' H' a xs := h.imp (fun ⟨⟨o, h⟩, n⟩ => ⟨⟨o, (e.at2 h n).1⟩, (e.at2 h n).2⟩) id
theorem Ext.fzL (e : Ext cm H cm' H') {a : Addr} {xs : List V} (h : FzL cm H a xs) : FzL cm' H' a xs := e.at2 h.1 h.2
theorem Ext.at (e : Ext cm H cm' H') {n : Nat} {a : Addr} (h : cm.cm[n]? = some a) : cm'.cm[n]? = some a := by
  obtain ⟨l, q⟩ := e.pre
  rw [q, List.getElem?_append_left (List.getElem?_eq_some_iff.mp h).1]
  exact h
mutual
theorem Rep.ext (e : Ext cm H cm' H') : ∀ {x : V} {v : IV}, Rep K mg cm H x v → Rep K mg cm' H' x v
  | _, _, .non => .non
  | _, _, .bl b => .bl b
  | _, _, .int i => .int i
  | _, _, .str x => .str x
  | _, _, .tup h r => .tup (e.fzT h) (RepL.ext e r)
  | _, _, .lst h r => .lst (e.fzL h) (RepL.ext e r)
  | _, _, .scr h r => .scr (e.fzS h) (RepL.ext e r)
  | _, _, .obj hc h n r => .obj hc (e.at2 h n).1 (e.at2 h n).2 (RepF.ext e r)
  | _, _, .cell h => .cell (e.at h)
  | _, _, .exn g c h n r => .exn g c (e.at2 h n).1 (e.at2 h n).2 (Rep.ext e r)
  | _, _, .rng h n => .rng (e.at2 h n).1 (e.at2 h n).2
  | _, _, .err g c h n h' n' r => .err g c (e.at2 h n).1 (e.at2 h n).2 (e.at2 h' n').1 (e.at2 h' n').2 (Rep.ext e r)
theorem RepL.ext (e : Ext cm H cm' H') : ∀ {xs : List V} {l : List IV}, RepL K mg cm H xs l → RepL K mg cm' H' xs l
  | _, _, .nil => .nil
  | _, _, .cons h r => .cons (Rep.ext e h) (RepL.ext e r)
theorem RepF.ext (e : Ext cm H cm' H') : ∀ {xs : List (Str × V)} {l : List (Str × IV)}, RepF K mg cm H xs l → RepF K mg cm' H' xs l
  | _, _, .nil => .nil
  | _, _, .cons h r => .cons (Rep.ext e h) (RepF.ext e r)
end
structure Cut (cm : Wd) (H : Hp) (cm' : Wd) (H' : Hp) : Prop where
  sub : ∀ a o, H a = some o → a ∉ cm.av → a ∉ cm'.av
  fr : ∀ a o, H a = some o → a ∉ cm.av → H' a = some o
theorem Cut.rd (e : Cut cm H cm' H') {a : Addr} {u : HO} (h : Rd H a u) (n : a ∉ cm.av) : Rd H' a u ∧ a ∉ cm'.av := by
  rcases h with h | ⟨o, h⟩
  · exact ⟨.inl (e.fr _ _ h n), e.sub _ _ h n⟩
  · exact ⟨.inr ⟨o, e.fr _ _ h n⟩, e.sub _ _ h n⟩
mutual
theorem Rep.cut (e : Cut cm H cm' H') : ∀ {x : V} {v : IV}, Rep K mg cm H x v → v.pure = true → Rep K mg cm' H' x v
  | _, _, .non, _ => .non
  | _, _, .bl b, _ => .bl b
  | _, _, .int i, _ => .int i
  | _, _, .str x, _ => .str x
  | _, _, .tup h r, p => .tup (h.imp (fun h => e.rd h.1 h.2) id) (RepL.cut e r (by simpa [IV.pure] using p))
  | _, _, .lst h r, p => .lst ⟨e.fr _ _ h.1 h.2, e.sub _ _ h.1 h.2⟩ (RepL.cut e r (by simpa [IV.pure] using p))
  | _, _, .scr h r, p => .scr (h.imp (fun ⟨⟨o, h⟩, n⟩ => ⟨⟨o, e.fr _ _ h n⟩, e.sub _ _ h n⟩) id) (RepL.cut e r (by simpa [IV.pure] using p))
  | _, _, .obj hc h n r, p => .obj hc (e.fr _ _ h n) (e.sub _ _ h n) (RepF.cut e r (by simpa [IV.pure] using p))
  | _, _, .cell h, p => by simp [IV.pure] at p
  | _, _, .exn g c h n r, p => by simp [IV.pure] at p
  | _, _, .rng h n, p => by simp [IV.pure] at p
  | _, _, .err g c h n h' n' r, p => by simp [IV.pure] at p
theorem RepL.cut (e : Cut cm H cm' H') : ∀ {xs : List V} {l : List IV}, RepL K mg cm H xs l → pureL l = true → RepL K mg cm' H' xs l
  | _, _, .nil, _ => .nil
  | _, _, .cons h r, p => by
    simp only [pureL, Bool.and_eq_true] at p
    exact .cons (Rep.cut e h p.1) (RepL.cut e r p.2)
theorem RepF.cut (e : Cut cm H cm' H') : ∀ {xs : List (Str × V)} {l : List (Str × IV)}, RepF K mg cm H xs l → pureF l = true → RepF K mg cm' H' xs l
  | _, _, .nil, _ => .nil
  | _, _, .cons h r, p => by
    simp only [pureF, Bool.and_eq_true] at p
    exact .cons (Rep.cut e h p.1) (RepF.cut e r p.2)
end
structure Weak (cm cm' : Wd) : Prop where
  ce : ∀ (n : Nat) (a : Addr), cm.cm[n]? = some a → cm'.cm[n]? = some a
  av : ∀ a, a ∉ cm.av → a ∉ cm'.av
mutual
theorem Rep.weak (e : Weak cm cm') : ∀ {x : V} {v : IV}, Rep K mg cm H x v → Rep K mg cm' H x v
  | _, _, .non => .non
  | _, _, .bl b => .bl b
  | _, _, .int i => .int i
  | _, _, .str x => .str x
  | _, _, .tup h r => .tup (h.imp (fun h => ⟨h.1, e.av _ h.2⟩) id) (RepL.weak e r)
  | _, _, .lst h r => .lst ⟨h.1, e.av _ h.2⟩ (RepL.weak e r)
  | _, _, .scr h r => .scr (h.imp (fun ⟨h, n⟩ => ⟨h, e.av _ n⟩) id) (RepL.weak e r)
  | _, _, .obj hc h n r => .obj hc h (e.av _ n) (RepF.weak e r)
  | _, _, .cell h => .cell (e.ce _ _ h)
  | _, _, .exn g c h n r => .exn g c h (e.av _ n) (Rep.weak e r)
  | _, _, .rng h n => .rng h (e.av _ n)
  | _, _, .err g c h n h' n' r => .err g c h (e.av _ n) h' (e.av _ n') (Rep.weak e r)
theorem RepL.weak (e : Weak cm cm') : ∀ {xs : List V} {l : List IV}, RepL K mg cm H xs l → RepL K mg cm' H xs l
  | _, _, .nil => .nil
  | _, _, .cons h r => .cons (Rep.weak e h) (RepL.weak e r)
theorem RepF.weak (e : Weak cm cm') : ∀ {xs : List (Str × V)} {l : List (Str × IV)}, RepF K mg cm H xs l → RepF K mg cm' H xs l
  | _, _, .nil => .nil
  | _, _, .cons h r => .cons (Rep.weak e h) (RepF.weak e r)
end
theorem Weak.unavoid {p : Addr} : Weak (cm.avoid p) cm := ⟨fun _ _ h => h, fun a h m => h (List.mem_cons_of_mem _ m)⟩
theorem Weak.push {p : Addr} : Weak (cm.avoid p) (cm.push p) := ⟨fun n a h => by
  show (cm.cm ++ [p])[n]? = some a
  have h' : cm.cm[n]? = some a := h
  rw [List.getElem?_append_left (List.getElem?_eq_some_iff.mp h').1]; exact h', fun a h => h⟩
theorem RepL.length : ∀ {xs : List V} {l : List IV}, RepL K mg cm H xs l → xs.length = l.length
  | _, _, .nil => rfl
  | _, _, .cons _ r => by simp [RepL.length r]
theorem RepL.get : ∀ {xs : List V} {l : List IV} {i : Nat} {v : IV}, RepL K mg cm H xs l → l[i]? = some v → ∃ x, xs[i]? = some x ∧ Rep K mg cm H x v
  | _, _, _, _, .nil, h => by simp at h
  | _, _, 0, _, .cons h _, e => by
    simp at e; subst e
    exact ⟨_, rfl, h⟩
  | _, _, i + 1, _, .cons _ r, e => by
    obtain ⟨x, h1, h2⟩ := RepL.get (i := i) r (by simpa using e)
    exact ⟨x, by simpa using h1, h2⟩
theorem RepL.app : ∀ {xs ys : List V} {l m : List IV}, RepL K mg cm H xs l → RepL K mg cm H ys m → RepL K mg cm H (xs ++ ys) (l ++ m)
  | _, _, _, _, .nil, h => h
  | _, _, _, _, .cons h r, q => .cons h (RepL.app r q)
theorem RepL.take : ∀ {xs : List V} {l : List IV} (n : Nat), RepL K mg cm H xs l → RepL K mg cm H (xs.take n) (l.take n)
  | _, _, 0, _ => by simpa using RepL.nil
  | _, _, n + 1, .nil => by simpa using RepL.nil
  | _, _, n + 1, .cons h r => .cons h (RepL.take n r)
theorem RepL.drop : ∀ {xs : List V} {l : List IV} (n : Nat), RepL K mg cm H xs l → RepL K mg cm H (xs.drop n) (l.drop n)
  | _, _, 0, h => h
  | _, _, n + 1, .nil => by simpa using RepL.nil
  | _, _, n + 1, .cons h r => RepL.drop n r
theorem RepL.set : ∀ {xs : List V} {l : List IV} {x : V} {v : IV} (n : Nat), RepL K mg cm H xs l → Rep K mg cm H x v → RepL K mg cm H (xs.set n x) (l.set n v)
  | _, _, _, _, _, .nil, _ => by simpa using RepL.nil
  | _, _, _, _, 0, .cons h r, q => .cons q r
  | _, _, _, _, n + 1, .cons h r, q => .cons h (RepL.set n r q)
theorem RepL.rep (n : Nat) : ∀ {xs : List V} {l : List IV}, RepL K mg cm H xs l → RepL K mg cm H (List.replicate n xs).flatten (List.replicate n l).flatten := by
  intro xs l r
  induction n with
  | zero => simpa using RepL.nil
  | succ n ih =>
    rw [List.replicate_succ, List.replicate_succ, List.flatten_cons, List.flatten_cons]
    exact r.app ih
theorem RepF.get : ∀ {xs : List (Str × V)} {l : List (Str × IV)} {f : Str} {v : IV}, RepF K mg cm H xs l → l.lookup f = some v → ∃ x, xs.lookup f = some x ∧ Rep K mg cm H x v
  | _, _, _, _, .nil, h => by simp at h
  | _, _, f, v, .cons (f := g) h r, e => by
    rw [List.lookup_cons] at e ⊢
    cases q : f == g with
    | true =>
      rw [q] at e
      simp at e; subst e
      exact ⟨_, rfl, h⟩
    | false =>
      rw [q] at e
      exact RepF.get r e
theorem RepF.none : ∀ {xs : List (Str × V)} {l : List (Str × IV)} {f : Str}, RepF K mg cm H xs l → l.lookup f = none → xs.lookup f = none
  | _, _, _, .nil, _ => rfl
  | _, _, f, .cons (f := g) h r, e => by
    rw [List.lookup_cons] at e ⊢
    cases q : f == g with
    | true => rw [q] at e; cases e
    | false =>
      rw [q] at e
      exact RepF.none r e
theorem RepF.length : ∀ {xs : List (Str × V)} {l : List (Str × IV)}, RepF K mg cm H xs l → xs.length = l.length
  | _, _, .nil => rfl
  | _, _, .cons _ r => by simp [RepF.length r]
def putI (f : Str) (v : IV) : List (Str × IV) → List (Str × IV)
  | [] => [(f, v)]
  | (g, w) :: r => if g = f then (g, v) :: r else (g, w) :: putI f v r
end
end MK
namespace MK
open PySem L2
section
variable (K : PySem.W.Frag) (mg : Str → Option Value)
def CellOk (cm : Wd) (H : Hp) (a : Addr) : CV → Prop
  | .lst l => ∃ xs, H a = some (.lst xs) ∧ RepL K mg cm H xs l ∧ pureL l = true
  | .ins c fs => ∃ C dx fs', mg c = some (.ref C) ∧ H a = some (.ins C dx fs') ∧ RepF K mg cm H fs' fs ∧ pureF fs = true
structure RelS (cm : Wd) (st : Sto) (H : Hp) : Prop where
  len : cm.cm.length = st.length
  nd : cm.cm.Nodup
  at' : ∀ (n : Nat) (a : Addr) (c : CV), cm.cm[n]? = some a → st[n]? = some c → CellOk K mg cm H a c
  avs : ∀ a, a ∈ cm.av → ∃ o, H a = some o
structure RelC (cm : Wd) (ls : Loc) (σ : L2.St) (H : Hp) : Prop where
  len : ls.length = σ.length
  at' : ∀ (i : Nat) (v : IV), ls[i]? = some (some v) → ∃ x, σ[i]? = some (some x) ∧ Rep K mg cm H x v
structure Rel (cm : Wd) (ls : Loc) (st : Sto) (σ : L2.St) (H : Hp) : Prop where
  sto : RelS K mg cm st H
  loc : RelC K mg cm ls σ H
def ExW (W : WX) (cm : Wd) (c f : Str) (v : IV) (σ : L2.St) (H : Hp) : Prop :=
  ∀ C d y, mg c = some (.ref C) → XF K C f → H d = some (.xd [(f, y)]) → d ∉ cm.av → Rep K mg cm H y v → W (.ref C) (some d) σ H
def Out {α : Type} (W : WX) (σ : L2.St) (cm : Wd) (H : Hp) (G : Wd → Hp → α → Prop) : OX α → Sto → Prop
  | .val a, st' => ∀ cm' H', Ext cm H cm' H' → RelS K mg cm' st' H' → G cm' H' a
  | .exc c f v, st' => ∀ cm' H', Ext cm H cm' H' → RelS K mg cm' st' H' → ExW K mg W cm' c f v σ H'
def Run {α : Type} (W : WX) (σ : L2.St) (H : Hp) (m : Loc → M α) (G : Wd → Hp → α → Prop) : Prop :=
  ∃ cm ls st r st', Rel K mg cm ls st σ H ∧ m ls st = some (r, st') ∧ Out K mg W σ cm H G r st'
def GE (Q : VK) (cm : Wd) (H : Hp) (v : IV) : Prop := ∀ x, Rep K mg cm H x v → Q x H
def GA (Q : List V → Hp → Prop) (cm : Wd) (H : Hp) (l : List IV) : Prop := ∀ xs, RepL K mg cm H xs l → Q xs H
def GS (W : WX) (D : Ends) (cm : Wd) (H : Hp) : Fl → Prop
  | .nx ls => ∀ σ, RelC K mg cm ls σ H → D.nx σ H
  | .bk ls => ∀ σ, RelC K mg cm ls σ H → D.bk σ H
  | .ct ls => ∀ σ, RelC K mg cm ls σ H → D.ct σ H
  | .rt v => ∀ x, Rep K mg cm H x v → D.rt x H
  | .ex ls c f v => ∀ σ, RelC K mg cm ls σ H → ExW K mg W cm c f v σ H
def rdE (W : WX) (m : ME) : TE := fun σ H Q => Run K mg W σ H m (GE K mg Q)
def rdT (W : WX) (m : MT) : TT := fun σ H Q => Run K mg W σ H m fun _ H' b => Q b H'
def rdA (W : WX) (m : MA) : TA := fun σ H Q => Run K mg W σ H m (GA K mg Q)
def OutS (W : WX) (D : Ends) (cm : Wd) (H : Hp) (fl : Fl) (st' : Sto) : Prop := ∀ cm' H', Ext cm H cm' H' → RelS K mg cm' st' H' → GS K mg W D cm' H' fl
def rdS (W : WX) (m : MS) : TS := fun D σ H => ∃ cm ls st fl st', Rel K mg cm ls st σ H ∧ m ls st = some (.val fl, st') ∧ OutS K mg W D cm H fl st'
end
section
variable {K : PySem.W.Frag} {mg : Str → Option Value} {cm cm' : Wd} {st st' : Sto} {H H' : Hp} {ls ls' : Loc} {σ : L2.St} {W : WX} {α β : Type}
theorem RelC.ext (e : Ext cm H cm' H') (h : RelC K mg cm ls σ H) : RelC K mg cm' ls σ H' := ⟨h.len, fun i v q => by
  obtain ⟨x, h1, h2⟩ := h.at' i v q
  exact ⟨x, h1, h2.ext e⟩⟩
theorem Rel.ext (e : Ext cm H cm' H') (h : Rel K mg cm ls st σ H) (s : RelS K mg cm' st' H') : Rel K mg cm' ls st' σ H' := ⟨s, h.loc.ext e⟩
theorem CellOk.ext (e : Ext cm H cm' H') {a : Addr} {c : CV} (h : CellOk K mg cm H a c) (k : H' a = H a) : CellOk K mg cm' H' a c := by
  cases c with
  | lst l =>
    obtain ⟨xs, h1, h2, h3⟩ := h
    exact ⟨xs, k.trans h1, h2.ext e, h3⟩
  | ins c fs =>
    obtain ⟨C, dx, fs', h0, h1, h2, h3⟩ := h
    exact ⟨C, dx, fs', h0, k.trans h1, h2.ext e, h3⟩
theorem RelS.ext (s : RelS K mg cm st H) (e : Ext cm H cm H') (k : ∀ a ∈ cm.cm, H' a = H a) : RelS K mg cm st H' := ⟨s.len, s.nd, fun n a c h1 h2 => (s.at' n a c h1 h2).ext e (k a (List.mem_of_getElem? h1)), fun a h => by
  obtain ⟨o, q⟩ := s.avs a h
  by_cases hc : a ∈ cm.cm
  · exact ⟨o, by rw [k a hc]; exact q⟩
  · exact ⟨o, e.fr a o q hc⟩⟩
theorem RelS.same (s : RelS K mg cm st H) (k : Same H H') : RelS K mg cm st H' := s.ext (Ext.same k) fun a h => by
  obtain ⟨o, q⟩ := s.avs a (cm.sub a h)
  rw [q]; exact k _ _ q
theorem same_new {H : Hp} {p : Addr} {o : HO} (h : H p = none) : Same H (upd H p o) := fun a u e => by rw [upd_ne (ne_of_none e h)]; exact e
theorem RelS.notAv (s : RelS K mg cm st H) {p : Addr} (h : H p = none) : p ∉ cm.av := fun m => by
  obtain ⟨o, e⟩ := s.avs p m
  rw [h] at e; cases e
theorem RelS.notCell (s : RelS K mg cm st H) {p : Addr} (h : H p = none) : p ∉ cm.cm := fun m => s.notAv h (cm.sub p m)
theorem RelS.new (s : RelS K mg cm st H) {p : Addr} {o : HO} (h : H p = none) : RelS K mg cm st (upd H p o) := s.same (same_new h)
theorem Ext.push {p : Addr} {o : HO} (h : H p = none) : Ext cm H (cm.push p) (upd H p o) where
  pre := ⟨[p], rfl⟩
  fr := fun a u e n => by rw [upd_ne (ne_of_none e h)]; exact e
  av := fun a u e n m => by
    rcases List.mem_cons.mp m with m | m
    · subst m; rw [h] at e; cases e
    · exact n m
  new := fun a u e n m => by
    rcases List.mem_append.mp m with m | m
    · exact n m
    · simp at m; subst m; rw [h] at e; cases e
  keep := fun a h => List.mem_cons_of_mem _ h
theorem Ext.avoid {p : Addr} {o : HO} (h : H p = none) : Ext cm H (cm.avoid p) (upd H p o) where
  pre := ⟨[], by simp [Wd.avoid]⟩
  fr := fun a u e n => by rw [upd_ne (ne_of_none e h)]; exact e
  av := fun a u e n m => by
    rcases List.mem_cons.mp m with m | m
    · subst m; rw [h] at e; cases e
    · exact n m
  new := fun a u e n => n
  keep := fun a h => List.mem_cons_of_mem _ h
theorem RelS.push (s : RelS K mg cm st H) {p : Addr} {c : CV} (h : H p = none) (e : Ext cm H (cm.push p) H') (k : ∀ a ∈ cm.cm, H' a = H a) (hp : ∃ o, H' p = some o) (hc : CellOk K mg (cm.push p) H' p c) : RelS K mg (cm.push p) (st ++ [c]) H' := by
  refine ⟨by simp [Wd.push, s.len], ?_, fun n a d h1 h2 => ?_, fun a m => ?_⟩
  · show (cm.cm ++ [p]).Nodup
    rw [List.nodup_append]
    exact ⟨s.nd, by simp, fun a ha b hb => by simp at hb; subst hb; exact fun z => s.notCell h (z ▸ ha)⟩
  · have h1' : (cm.cm ++ [p])[n]? = some a := h1
    by_cases hn : n < cm.cm.length
    · rw [List.getElem?_append_left hn] at h1'
      rw [List.getElem?_append_left (by rw [← s.len]; exact hn)] at h2
      exact (s.at' n a d h1' h2).ext e (k a (List.mem_of_getElem? h1'))
    · have hn' : n = cm.cm.length := by
        have := (List.getElem?_eq_some_iff.mp h1').1
        simp at this
        omega
      subst hn'
      rw [List.getElem?_append_right (Nat.le_refl _)] at h1'
      rw [s.len, List.getElem?_append_right (Nat.le_refl _)] at h2
      simp at h1' h2
      subst h1' h2
      exact hc
  · rcases List.mem_cons.mp m with m | m
    · subst m; exact hp
    · obtain ⟨o, q⟩ := s.avs a m
      by_cases hc : a ∈ cm.cm
      · exact ⟨o, by rw [k a hc]; exact q⟩
      · exact ⟨o, e.fr a o q hc⟩
theorem RelS.set (s : RelS K mg cm st H) {n : Nat} {a : Addr} {o : HO} {c : CV} (h : cm.cm[n]? = some a) (hc : CellOk K mg cm (upd H a o) a c) : RelS K mg cm (st.set n c) (upd H a o) := by
  have hm := List.mem_of_getElem? h
  refine ⟨by simp [s.len], s.nd, fun m b d h1 h2 => ?_, fun b m => ?_⟩
  · have hn : n < st.length := by rw [← s.len]; exact (List.getElem?_eq_some_iff.mp h).1
    by_cases e : n = m
    · subst e
      rw [h] at h1; cases h1
      rw [List.getElem?_set_self hn] at h2; cases h2
      exact hc
    · rw [List.getElem?_set_ne e] at h2
      have ne : b ≠ a := fun z => by
        subst z
        obtain ⟨i1, e1⟩ := List.getElem?_eq_some_iff.mp h
        obtain ⟨i2, e2⟩ := List.getElem?_eq_some_iff.mp h1
        exact e ((List.getElem_inj s.nd).mp (e1.trans e2.symm))
      exact (s.at' m b d h1 h2).ext (Ext.set hm) (upd_ne ne)
  · by_cases e : b = a
    · subst e; exact ⟨o, upd_same⟩
    · obtain ⟨u, q⟩ := s.avs b m
      exact ⟨u, by rw [upd_ne e]; exact q⟩
theorem Run.part {m : Loc → M α} {k : α → M β} {G : Wd → Hp → β → Prop} (h : Run K mg W σ H (fun ls => M.bind (m ls) k) G) :
    ∃ cm ls st, Rel K mg cm ls st σ H ∧ ∃ r st', m ls st = some (r, st') ∧ Out K mg W σ cm H (fun cm' H' a => ∃ r2 st2, k a st' = some (r2, st2) ∧ Out K mg W σ cm' H' G r2 st2) r st' := by
  obtain ⟨cm, ls, st, r, st', R, e, o⟩ := h
  refine ⟨cm, ls, st, R, ?_⟩
  rcases M.bind_inv e with ⟨a, st1, e1, e2⟩ | ⟨c, f, v, e1, rfl⟩
  · refine ⟨_, _, e1, fun cm' H' x s => ⟨r, st', e2, ?_⟩⟩
    cases r with
    | val b => exact fun cm2 H2 x2 s2 => o cm2 H2 (x.trans x2) s2
    | exc c f v => exact fun cm2 H2 x2 s2 => o cm2 H2 (x.trans x2) s2
  · exact ⟨_, _, e1, o⟩
end
theorem PE_imp {X : Cx} {e : Expr} {t t' : TE} (h : PE X e t) (i : ∀ σ H Q, t' σ H Q → t σ H Q) : PE X e t' := ⟨fun pins s σ H Q I q => h.run pins s σ H Q I (i σ H Q q)⟩
theorem PT_imp {X : Cx} {e : Expr} {t t' : TT} (h : PT X e t) (i : ∀ σ H Q, t' σ H Q → t σ H Q) : PT X e t' := ⟨fun pins s σ H Q I q => h.run pins s σ H Q I (i σ H Q q)⟩
theorem PW_imp {X : Cx} {e : Expr} {t t' : TT} (h : PW X e t) (i : ∀ σ H Q, t' σ H Q → t σ H Q) : PW X e t' := ⟨fun wh pins s σ H Q I q => h.run wh pins s σ H Q I (i σ H Q q)⟩
theorem PA_imp {X : Cx} {es : List Expr} {t t' : TA} (h : PA X es t) (i : ∀ σ H Q, t' σ H Q → t σ H Q) : PA X es t' := ⟨fun pos pins s σ H Q I q => h.run pos pins s σ H Q I (i σ H Q q)⟩
theorem PS_imp {X : Cx} {st : Stmt} {t t' : TS} (h : PS X st t) (i : ∀ D σ H, t' D σ H → t D σ H) : PS X st t' := ⟨fun pins s σ H D I q => h.run pins s σ H D I (i D σ H q)⟩
theorem PSs_imp {X : Cx} {st : List Stmt} {t t' : TS} (h : PSs X st t) (i : ∀ D σ H, t' D σ H → t D σ H) : PSs X st t' := ⟨fun pins s σ H D I q => h.run pins s σ H D I (i D σ H q)⟩
end MK
namespace MK
open PySem L2
def lstOf (st : Sto) : IV → Option (List IV)
  | .lst l => some l
  | .cell n => match st[n]? with | some (.lst l) => some l | _ => none
  | _ => none
def asSeq (st : Sto) : IV → Option (List IV)
  | .tup l => some l
  | .scr l => some l
  | v => lstOf st v
mutual
def IV.toD : IV → Option PyData
  | .non => some .none
  | .bl b => some (.bool b)
  | .int i => some (.int i)
  | .str x => some (.str x)
  | .tup l => (toDL l).map .tuple
  | .lst l => (toDL l).map .list
  | .scr l => (toDL l).map .list
  | _ => none
def toDL : List IV → Option (List PyData)
  | [] => some []
  | x :: xs => match x.toD, toDL xs with
    | some d, some ds => some (d :: ds)
    | _, _ => none
end
def IV.data (st : Sto) : IV → Option PyData
  | .cell n => match st[n]? with | some (.lst l) => (toDL l).map .list | _ => none
  | v => v.toD
section
variable {K : PySem.W.Frag} {mg : Str → Option Value} {cm cm' : Wd} {st : Sto} {H H' : Hp} {x y : V} {a b v : IV} {l : List IV}
theorem lstOf_rep (s : RelS K mg cm st H) (h : Rep K mg cm H x a) (e : lstOf st a = some l) : ∃ p xs, x = .ref p ∧ H p = some (.lst xs) ∧ RepL K mg cm H xs l := by
  cases h with
  | lst h r => simp only [lstOf] at e; cases e; exact ⟨_, _, rfl, h.1, r⟩
  | @cell p n h =>
    simp only [lstOf] at e
    cases q : st[n]? with
    | none => rw [q] at e; cases e
    | some c =>
      rw [q] at e
      cases c with
      | ins => cases e
      | lst l' =>
        cases e
        obtain ⟨xs, h1, h2, _⟩ := s.at' n p _ h q
        exact ⟨p, xs, rfl, h1, h2⟩
  | _ => cases e
theorem asSeq_rep (s : RelS K mg cm st H) (h : Rep K mg cm H x a) (e : asSeq st a = some l) : ∃ p xs, x = .ref p ∧ (SqL K H p xs ∨ SqT K H p xs) ∧ RepL K mg cm H xs l := by
  cases h with
  | tup h r => simp only [asSeq] at e; cases e; exact ⟨_, _, rfl, .inr h.sq, r⟩
  | scr h r => simp only [asSeq] at e; cases e; exact ⟨_, _, rfl, .inl h.sq, r⟩
  | lst h r =>
    obtain ⟨p, xs, e1, h1, h2⟩ := lstOf_rep s (.lst h r) e
    exact ⟨p, xs, e1, .inl (SqL.of h1), h2⟩
  | cell h =>
    obtain ⟨p, xs, e1, h1, h2⟩ := lstOf_rep s (.cell h) e
    exact ⟨p, xs, e1, .inl (SqL.of h1), h2⟩
  | _ => cases e
mutual
theorem toD_Dp : ∀ (a : IV) {x : V} {d : PyData}, Rep K mg cm H x a → a.toD = some d → Dp K H x d
  | .non, _, _, h, e => by cases h; simp only [IV.toD] at e; cases e; exact .non
  | .bl b, _, _, h, e => by cases h; simp only [IV.toD] at e; cases e; exact .bl _
  | .int i, _, _, h, e => by cases h; simp only [IV.toD] at e; cases e; exact .int _
  | .str z, _, _, h, e => by cases h; simp only [IV.toD] at e; cases e; exact .str _
  | .tup l, _, _, h, e => by
    cases h with
    | tup h r =>
      simp only [IV.toD] at e
      cases q : toDL l with
      | none => rw [q] at e; cases e
      | some ds => rw [q] at e; cases e; exact .tup h.sq (toDL_Dp l r q)
  | .lst l, _, _, h, e => by
    cases h with
    | lst h r =>
      simp only [IV.toD] at e
      cases q : toDL l with
      | none => rw [q] at e; cases e
      | some ds => rw [q] at e; cases e; exact .lst h.sq (toDL_Dp l r q)
  | .scr l, _, _, h, e => by
    cases h with
    | scr h r =>
      simp only [IV.toD] at e
      cases q : toDL l with
      | none => rw [q] at e; cases e
      | some ds => rw [q] at e; cases e; exact .lst h.sq (toDL_Dp l r q)
  | .obj .., _, _, _, e => by simp only [IV.toD] at e; cases e
  | .cell _, _, _, _, e => by simp only [IV.toD] at e; cases e
  | .exn .., _, _, _, e => by simp only [IV.toD] at e; cases e
theorem toDL_Dp : ∀ (l : List IV) {xs : List V} {ds : List PyData}, RepL K mg cm H xs l → toDL l = some ds → DpAll K H xs ds
  | [], _, _, h, e => by cases h; simp only [toDL] at e; cases e; exact .nil
  | a :: l, _, _, h, e => by
    cases h with
    | cons h r =>
      simp only [toDL] at e
      cases q1 : a.toD with
      | none => rw [q1] at e; cases e
      | some d =>
        cases q2 : toDL l with
        | none => rw [q1, q2] at e; cases e
        | some ds => rw [q1, q2] at e; cases e; exact .cons (toD_Dp a h q1) (toDL_Dp l r q2)
end
theorem data_Dp (s : RelS K mg cm st H) (h : Rep K mg cm H x a) {d : PyData} (e : a.data st = some d) : Dp K H x d := by
  by_cases hc : ∃ n, a = .cell n
  · obtain ⟨n, rfl⟩ := hc
    simp only [IV.data] at e
    cases q : st[n]? with
    | none => rw [q] at e; cases e
    | some c =>
      rw [q] at e
      cases c with
      | ins => cases e
      | lst l' =>
        obtain ⟨p, xs, rfl, h1, h2⟩ := lstOf_rep (l := l') s h (by simp only [lstOf, q])
        cases q2 : toDL l' with
        | none => simp only [q2] at e; cases e
        | some ds => simp only [q2] at e; cases e; exact .lst (SqL.of h1) (toDL_Dp l' h2 q2)
  · have e' : a.toD = some d := by
      cases a with
      | cell n => exact absurd ⟨n, rfl⟩ hc
      | _ => exact e
    exact toD_Dp a h e'
end
def OpV (K : PySem.W.Frag) (mg : Str → Option Value) (r : R2) (g : Sto → IV → IV → Option IV) : Prop :=
  ∀ (cm : Wd) (st : Sto) (H : Hp) (x y : V) (a b v : IV) (Q : VK), RelS K mg cm st H → Rep K mg cm H x a → Rep K mg cm H y b → g st a b = some v →
    (∀ cm' H' z, Ext cm H cm' H' → RelS K mg cm' st H' → Rep K mg cm' H' z v → Q z H') → r x y H Q
def addI (st : Sto) (a b : IV) : Option IV := match a, b with
  | .int i, .int j => some (.int (i + j))
  | .str x, .str y => if x.length + y.length ≤ 16777216 then some (.str (x ++ y)) else none
  | .tup l, .tup m => if l.length + m.length ≤ 16777216 then some (.tup (l ++ m)) else none
  | a, b => match lstOf st a, lstOf st b with
    | some l, some m => if l.length + m.length ≤ 16777216 then some (.lst (l ++ m)) else none
    | _, _ => none
def rAddI (K : PySem.W.Frag) : R2 := fun x y H Q => rI0 (fun i j => .int (i + j)) x y H Q ∨ (∃ i j, x = .str i ∧ y = .str j ∧ i.length + j.length ≤ sizeLine ∧ Q (.str (i ++ j)) H) ∨ rCatA K x y H Q ∨ rCat x y H Q
theorem op_addI {X : Cx} : OpR X (binaryOp .Add) (rAddI X.K) := by
  intro pins s σ H x y v u Q I rx ry h
  rcases h with h | h | h | h
  · exact op_add pins s σ H x y v u Q I rx ry h
  · exact op_add_str pins s σ H x y v u Q I rx ry h
  · exact op_catA pins s σ H x y v u Q I rx ry h
  · exact op_cat pins s σ H x y v u Q I rx ry h
theorem v_add {K : PySem.W.Frag} {mg : Str → Option Value} : OpV K mg (rAddI K) addI := by
  intro cm st H x y a b v Q s hx hy e k
  have z := sizeLine_eq
  have lists : ∀ l m, lstOf st a = some l → lstOf st b = some m → l.length + m.length ≤ 16777216 → v = .lst (l ++ m) → rAddI K x y H Q := by
    intro l m e1 e2 e3 e4
    obtain ⟨p, xs, rfl, h1, h2⟩ := lstOf_rep s hx e1
    obtain ⟨q, ys, rfl, h3, h4⟩ := lstOf_rep s hy e2
    have l1 := h2.length
    have l2 := h4.length
    refine .inr (.inr (.inr ⟨p, q, xs, ys, rfl, rfl, h1, h3, by omega, fun c hc => ?_⟩))
    have E : Ext cm H cm (upd H c (.lst (xs ++ ys))) := Ext.new' hc
    subst e4
    exact k cm _ _ E (s.new hc) (.lst ⟨upd_same, s.notAv hc⟩ ((h2.ext E).app (h4.ext E)))
  have last : (match lstOf st a, lstOf st b with
    | some l, some m => if l.length + m.length ≤ 16777216 then some (IV.lst (l ++ m)) else none
    | _, _ => none) = some v → rAddI K x y H Q := by
    intro e
    cases e1 : lstOf st a with
    | none => rw [e1] at e; simp at e
    | some l =>
      cases e2 : lstOf st b with
      | none => rw [e1, e2] at e; simp at e
      | some m =>
        rw [e1, e2] at e
        simp only at e
        split at e
        · cases e; exact lists l m e1 e2 (by assumption) rfl
        · cases e
  cases a <;> cases b <;> first
    | exact last e
    | skip
  case int.int i j =>
    simp only [addI] at e
    cases e
    cases hx
    cases hy
    exact .inl ⟨_, _, rfl, rfl, k cm H _ (Ext.refl _ _) s (.int _)⟩
  case str.str i j =>
    simp only [addI] at e
    split at e
    · cases e
      cases hx
      cases hy
      exact .inr (.inl ⟨_, _, rfl, rfl, by omega, k cm H _ (Ext.refl _ _) s (.str _)⟩)
    · cases e
  case tup.tup l m =>
    simp only [addI] at e
    split at e
    · cases e
      cases hx with
      | @tup p xs _ h1 h2 =>
        cases hy with
        | @tup q ys _ h3 h4 =>
          have l1 := h2.length
          have l2 := h4.length
          refine .inr (.inr (.inl ⟨_, _, xs, ys, rfl, rfl, h1.sq, h3.sq, by omega, fun e => ?_, fun _ e => ?_, fun _ _ c hc => ?_⟩))
          · subst e; cases h2; exact k cm H _ (Ext.refl _ _) s (.tup h3 h4)
          · subst e; cases h4; exact k cm H _ (Ext.refl _ _) s (by rw [List.append_nil]; exact .tup h1 h2)
          · have E : Ext cm H cm (upd H c (.tup (xs ++ ys))) := Ext.new' hc
            exact k cm _ _ E (s.new hc) (.tup (.inl ⟨.inl upd_same, s.notAv hc⟩) ((h2.ext E).app (h4.ext E)))
    · cases e
end MK
namespace MK
open PySem L2
section
variable {K : PySem.W.Frag} {mg : Str → Option Value}
def subI (_ : Sto) (a b : IV) : Option IV := match a, b with
  | .int i, .int j => some (.int (i - j))
  | _, _ => none
theorem v_sub : OpV K mg (rI0 fun i j => .int (i - j)) subI := by
  intro cm st H x y a b v Q s hx hy e k
  cases a <;> cases b <;> simp only [subI] at e <;> cases e
  cases hx; cases hy
  exact ⟨_, _, rfl, rfl, k cm H _ (Ext.refl _ _) s (.int _)⟩
def mulI (_ : Sto) (a b : IV) : Option IV := match a, b with
  | .int i, .int j => if i.natAbs.log2 + j.natAbs.log2 < 1000000 then some (.int (i * j)) else none
  | .tup l, .int j => if l ≠ [] ∧ 2 ≤ j ∧ j ≤ 1000 ∧ l.length ≤ 1000 then some (.tup (List.replicate j.toNat l).flatten) else none
  | _, _ => none
def rMulI (K : PySem.W.Frag) : R2 := fun x y H Q => rI CMulW (fun i j => .int (i * j)) x y H Q ∨ rRepT K x y H Q
theorem op_mulI {X : Cx} : OpR X (binaryOp .Mult) (rMulI X.K) := by
  intro pins s σ H x y v u Q I rx ry h
  rcases h with h | h
  · exact op_mulW pins s σ H x y v u Q I rx ry h
  · exact op_repT pins s σ H x y v u Q I rx ry h
theorem v_mul : OpV K mg (rMulI K) mulI := by
  intro cm st H x y a b v Q s hx hy e k
  cases a <;> cases b <;> simp only [mulI] at e <;> try cases e
  case int.int i j =>
    split at e
    · cases e; cases hx; cases hy
      exact .inl ⟨_, _, rfl, rfl, by assumption, k cm H _ (Ext.refl _ _) s (.int _)⟩
    · cases e
  case tup.int l j =>
    split at e
    · rename_i hc
      cases e; cases hy
      cases hx with
      | @tup p xs _ h1 h2 =>
        have l1 := h2.length
        refine .inr ⟨_, _, xs, rfl, rfl, h1.sq, fun z => ?_, hc.2.1, hc.2.2.1, by omega, fun c hn => ?_⟩
        · subst z; cases h2; exact hc.1 rfl
        · have E : Ext cm H cm (upd H c (.tup (List.replicate j.toNat xs).flatten)) := Ext.new' hn
          exact k cm _ _ E (s.new hn) (.tup (.inl ⟨.inl upd_same, s.notAv hn⟩) ((h2.ext E).rep _))
    · cases e
def fdivI (_ : Sto) (a b : IV) : Option IV := match a, b with
  | .int i, .int j => if 0 < j ∧ j.natAbs.log2 < 9000 then some (.int (i / j)) else none
  | _, _ => none
theorem v_fdiv : OpV K mg (rI CDivW fun i j => .int (i / j)) fdivI := by
  intro cm st H x y a b v Q s hx hy e k
  cases a <;> cases b <;> simp only [fdivI] at e <;> try cases e
  split at e
  · cases e; cases hx; cases hy
    exact ⟨_, _, rfl, rfl, by assumption, k cm H _ (Ext.refl _ _) s (.int _)⟩
  · cases e
def modI (_ : Sto) (a b : IV) : Option IV := match a, b with
  | .int i, .int j => if 0 < j then some (.int (i % j)) else none
  | _, _ => none
theorem v_mod : OpV K mg (rI (fun _ j => 0 < j) fun i j => .int (i % j)) modI := by
  intro cm st H x y a b v Q s hx hy e k
  cases a <;> cases b <;> simp only [modI] at e <;> try cases e
  split at e
  · cases e; cases hx; cases hy
    exact ⟨_, _, rfl, rfl, by assumption, k cm H _ (Ext.refl _ _) s (.int _)⟩
  · cases e
def powI (_ : Sto) (a b : IV) : Option IV := match a, b with
  | .int i, .int j => if 0 ≤ j ∧ j ≤ 1000000 ∧ i.natAbs < 2 ^ 64 then some (.int (i ^ j.toNat)) else none
  | _, _ => none
theorem v_pow : OpV K mg (rI CPow fun i j => .int (i ^ j.toNat)) powI := by
  intro cm st H x y a b v Q s hx hy e k
  cases a <;> cases b <;> simp only [powI] at e <;> try cases e
  split at e
  · cases e; cases hx; cases hy
    exact ⟨_, _, rfl, rfl, by assumption, k cm H _ (Ext.refl _ _) s (.int _)⟩
  · cases e
def cmpI (p : Int → Int → Bool) (_ : Sto) (a b : IV) : Option IV := match a, b with
  | .int i, .int j => some (.bl (p i j))
  | _, _ => none
theorem v_cmp {p : Int → Int → Bool} : OpV K mg (rI0 fun i j => .bl (p i j)) (cmpI p) := by
  intro cm st H x y a b v Q s hx hy e k
  cases a <;> cases b <;> simp only [cmpI] at e <;> cases e
  cases hx; cases hy
  exact ⟨_, _, rfl, rfl, k cm H _ (Ext.refl _ _) s (.bl _)⟩
def eqB (st : Sto) (a b : IV) : Option Bool := match a.data st, b.data st with
  | some d, some e => if SeqAt.shaped d = true ∧ SeqAt.shaped e = true then some (PyData.eqv d e) else none
  | _, _ => none
def eqI (st : Sto) (a b : IV) : Option IV := (eqB st a b).map .bl
def neI (st : Sto) (a b : IV) : Option IV := (eqB st a b).map fun c => .bl (!c)
theorem eqB_data {cm : Wd} {st : Sto} {H : Hp} {x y : V} {a b : IV} {c : Bool} (s : RelS K mg cm st H) (hx : Rep K mg cm H x a) (hy : Rep K mg cm H y b) (e : eqB st a b = some c) :
    ∃ d d', Dp K H x d ∧ Dp K H y d' ∧ SeqAt.shaped d = true ∧ SeqAt.shaped d' = true ∧ c = PyData.eqv d d' := by
  unfold eqB at e
  cases e1 : a.data st with
  | none => rw [e1] at e; simp at e
  | some d =>
    cases e2 : b.data st with
    | none => rw [e1, e2] at e; simp at e
    | some d' =>
      rw [e1, e2] at e
      simp only at e
      split at e
      · rename_i h
        cases e
        exact ⟨d, d', data_Dp s hx e1, data_Dp s hy e2, h.1, h.2, rfl⟩
      · cases e
theorem v_eq : OpV K mg (rEqD K) eqI := by
  intro cm st H x y a b v Q s hx hy e k
  unfold eqI at e
  cases q : eqB st a b with
  | none => rw [q] at e; cases e
  | some c =>
    rw [q] at e; cases e
    obtain ⟨d, d', h1, h2, h3, h4, rfl⟩ := eqB_data s hx hy q
    exact ⟨d, d', h1, h2, h3, h4, k cm H _ (Ext.refl _ _) s (.bl _)⟩
theorem v_ne : OpV K mg (rNeD K) neI := by
  intro cm st H x y a b v Q s hx hy e k
  unfold neI at e
  cases q : eqB st a b with
  | none => rw [q] at e; cases e
  | some c =>
    rw [q] at e; cases e
    obtain ⟨d, d', h1, h2, h3, h4, rfl⟩ := eqB_data s hx hy q
    exact ⟨d, d', h1, h2, h3, h4, k cm H _ (Ext.refl _ _) s (.bl _)⟩
def isB (a b : IV) : Option Bool := match b with
  | .non => (match a with | .non => some true | _ => some false)
  | .bl c => (match a with | .bl d => some (d == c) | _ => none)
  | _ => none
def isI (_ : Sto) (a b : IV) : Option IV := (isB a b).map .bl
def rIsI : R2 := fun x y H Q => (y = .non ∧ Q (.bl (decide (x = .non))) H) ∨ rIsB x y H Q
theorem op_isI {X : Cx} : OpR X (compareOp .Is) rIsI := by
  intro pins s σ H x y v u Q I rx ry h
  rcases h with h | h
  · exact op_isN pins s σ H x y v u Q I rx ry h
  · exact op_isBl pins s σ H x y v u Q I rx ry h
theorem isB_rep {cm : Wd} {H : Hp} {x y : V} {a b : IV} {c : Bool} (hx : Rep K mg cm H x a) (hy : Rep K mg cm H y b) (e : isB a b = some c) :
    (y = .non ∧ c = decide (x = .non)) ∨ ∃ p q : Bool, x = .bl p ∧ y = .bl q ∧ c = decide (p = q) := by
  cases b with
  | non =>
    cases hy
    refine .inl ⟨rfl, ?_⟩
    cases hx <;> simp [isB] at e <;> subst e <;> simp
  | bl q =>
    cases hy
    cases a with
    | bl p =>
      cases hx
      simp only [isB] at e
      cases e
      refine .inr ⟨_, _, rfl, rfl, ?_⟩
      cases p <;> cases q <;> rfl
    | _ => simp [isB] at e
  | _ => simp [isB] at e
theorem v_is : OpV K mg rIsI isI := by
  intro cm st H x y a b v Q s hx hy e k
  unfold isI at e
  cases q : isB a b with
  | none => rw [q] at e; cases e
  | some c =>
    rw [q] at e; cases e
    have k' := k cm H (.bl c) (Ext.refl _ _) s (.bl _)
    rcases isB_rep hx hy q with ⟨h1, rfl⟩ | ⟨p1, p2, h1, h2, rfl⟩
    · exact .inl ⟨h1, k'⟩
    · exact .inr ⟨p1, p2, h1, h2, k'⟩
def IV.flat : IV → Bool
  | .non => true
  | .bl _ => true
  | .int _ => true
  | .str _ => true
  | _ => false
def eqF : IV → IV → Bool
  | .non, .non => true
  | .bl a, .bl b => a == b
  | .bl a, .int b => (if a then 1 else 0) == b
  | .int a, .bl b => a == (if b then 1 else 0)
  | .int a, .int b => a == b
  | .str a, .str b => a == b
  | _, _ => false
def inB (st : Sto) (a b : IV) : Option Bool := match asSeq st b with
  | some l => if a.flat = true ∧ l.all IV.flat = true then some (l.any fun z => eqF z a) else
      match b.data st, a.data st with
      | some (.list ds), some d => if SeqAt.shaped d = true ∧ SeqAt.shaped (.list ds) = true then some (ds.any fun z => PyData.eqv z d) else none
      | _, _ => none
  | none => none
def inI (st : Sto) (a b : IV) : Option IV := (inB st a b).map .bl
def notInI (st : Sto) (a b : IV) : Option IV := (inB st a b).map fun c => .bl (!c)
def rInI (K : PySem.W.Frag) : R2 := fun x y H Q => rIn K false x y H Q ∨ rInD K x y H Q
def rNotInI (K : PySem.W.Frag) : R2 := fun x y H Q => rIn K true x y H Q ∨ rNotInD K x y H Q
theorem op_inI {X : Cx} (hu : X.A.units + 65 < cLine) : OpR X (compareOp .In) (rInI X.K) := by
  intro pins s σ H x y v u Q I rx ry h
  rcases h with h | h
  · exact op_in_seq pins s σ H x y v u Q I rx ry h
  · exact op_inD hu pins s σ H x y v u Q I rx ry h
theorem op_notInI {X : Cx} (hu : X.A.units + 65 < cLine) : OpR X (compareOp .NotIn) (rNotInI X.K) := by
  intro pins s σ H x y v u Q I rx ry h
  rcases h with h | h
  · exact op_notIn_seq pins s σ H x y v u Q I rx ry h
  · exact op_notInD hu pins s σ H x y v u Q I rx ry h
theorem flat_rep {cm : Wd} {H : Hp} {x : V} {a : IV} (h : Rep K mg cm H x a) (f : a.flat = true) : flatV x = true := by
  cases h <;> simp [IV.flat] at f <;> rfl
theorem flatL_rep {cm : Wd} {H : Hp} : ∀ {xs : List V} {l : List IV}, RepL K mg cm H xs l → l.all IV.flat = true → xs.all flatV = true
  | _, _, .nil, _ => rfl
  | _, _, .cons h r, f => by
    rw [List.all_cons, Bool.and_eq_true] at f
    rw [List.all_cons, flat_rep h f.1, flatL_rep r f.2]; rfl
theorem eqF_rep {cm : Wd} {H : Hp} {x y : V} {a b : IV} (hx : Rep K mg cm H x a) (hy : Rep K mg cm H y b) (f : a.flat = true) (f' : b.flat = true) : eqV x y = eqF a b := by
  cases hx <;> simp [IV.flat] at f <;> cases hy <;> simp [IV.flat] at f' <;> rfl
theorem anyF_rep {cm : Wd} {H : Hp} {x : V} {a : IV} (hx : Rep K mg cm H x a) (f : a.flat = true) : ∀ {xs : List V} {l : List IV}, RepL K mg cm H xs l → l.all IV.flat = true → inV x xs = l.any fun z => eqF z a
  | _, _, .nil, _ => rfl
  | _, _, .cons h r, f' => by
    rw [List.all_cons, Bool.and_eq_true] at f'
    have q := anyF_rep hx f r f'.2
    unfold inV at q ⊢
    rw [List.any_cons, List.any_cons, q, eqF_rep h hx f'.1 f]
theorem inB_rep {cm : Wd} {st : Sto} {H : Hp} {x y : V} {a b : IV} {c : Bool} (s : RelS K mg cm st H) (hx : Rep K mg cm H x a) (hy : Rep K mg cm H y b) (e : inB st a b = some c) :
    (∃ p xs, y = .ref p ∧ (SqL K H p xs ∨ SqT K H p xs) ∧ flatV x = true ∧ xs.all flatV = true ∧ c = inV x xs) ∨
    ∃ d ds, Dp K H x d ∧ Dp K H y (.list ds) ∧ SeqAt.shaped d = true ∧ SeqAt.shaped (.list ds) = true ∧ c = ds.any fun z => PyData.eqv z d := by
  unfold inB at e
  cases e1 : asSeq st b with
  | none => rw [e1] at e; cases e
  | some l =>
    rw [e1] at e
    simp only at e
    split at e
    · rename_i h
      cases e
      obtain ⟨p, xs, h1, h2, h3⟩ := asSeq_rep s hy e1
      exact .inl ⟨p, xs, h1, h2, flat_rep hx h.1, flatL_rep h3 h.2, (anyF_rep hx h.1 h3 h.2).symm⟩
    · split at e
      · rename_i ds d h1 h2
        split at e
        · rename_i h3
          cases e
          exact .inr ⟨d, ds, data_Dp s hx h2, data_Dp s hy h1, h3.1, h3.2, rfl⟩
        · cases e
      · cases e
theorem v_in : OpV K mg (rInI K) inI := by
  intro cm st H x y a b v Q s hx hy e k
  unfold inI at e
  cases q : inB st a b with
  | none => rw [q] at e; cases e
  | some c =>
    rw [q] at e; cases e
    have k' := k cm H (.bl c) (Ext.refl _ _) s (.bl _)
    rcases inB_rep s hx hy q with ⟨p, xs, h1, h2, h3, h4, rfl⟩ | ⟨d, ds, h1, h2, h3, h4, rfl⟩
    · exact .inl ⟨p, xs, h1, h2, h3, h4, by rw [if_neg (by decide)]; exact k'⟩
    · exact .inr ⟨d, ds, h1, h2, h3, h4, k'⟩
theorem v_notIn : OpV K mg (rNotInI K) notInI := by
  intro cm st H x y a b v Q s hx hy e k
  unfold notInI at e
  cases q : inB st a b with
  | none => rw [q] at e; cases e
  | some c =>
    rw [q] at e; cases e
    have k' := k cm H (.bl (!c)) (Ext.refl _ _) s (.bl _)
    rcases inB_rep s hx hy q with ⟨p, xs, h1, h2, h3, h4, rfl⟩ | ⟨d, ds, h1, h2, h3, h4, rfl⟩
    · exact .inl ⟨p, xs, h1, h2, h3, h4, by rw [if_pos rfl]; exact k'⟩
    · exact .inr ⟨d, ds, h1, h2, h3, h4, k'⟩
def itemI (st : Sto) (a b : IV) : Option IV := match b with
  | .int i => (match a with
    | .str z => if z.length ≤ 16777216 then (atI z.cps.toList i).map fun c => .str ⟨#[c]⟩ else none
    | a => (asSeq st a).bind fun l => atI l i)
  | _ => none
theorem atI_rep {cm : Wd} {H : Hp} {xs : List V} {l : List IV} {i : Int} {v : IV} (r : RepL K mg cm H xs l) (e : atI l i = some v) : ∃ x, atI xs i = some x ∧ Rep K mg cm H x v := by
  unfold atI at e ⊢
  rw [r.length]
  cases q : ixN l.length i with
  | none => rw [q] at e; cases e
  | some j =>
    rw [q] at e
    obtain ⟨x, h1, h2⟩ := r.get e
    exact ⟨x, h1, h2⟩
theorem v_item : OpV K mg (rIx K) itemI := by
  intro cm st H x y a b v Q s hx hy e k
  have z := sizeLine_eq
  cases b with
  | int i =>
    cases hy
    have seq : (asSeq st a).bind (fun l => atI l i) = some v → rIx K x (.int i) H Q := fun e => by
      cases e1 : asSeq st a with
      | none => rw [e1] at e; cases e
      | some l =>
        rw [e1] at e
        obtain ⟨p, xs, h1, h2, h3⟩ := asSeq_rep s hx e1
        obtain ⟨w, h4, h5⟩ := atI_rep h3 e
        have k' := k cm H w (Ext.refl _ _) s h5
        rcases h2 with h2 | h2
        · exact .inl ⟨p, xs, i, w, h1, rfl, h2, h4, k'⟩
        · exact .inr (.inl ⟨p, xs, i, w, h1, rfl, h2, h4, k'⟩)
    cases a with
    | str z' =>
      cases hx
      simp only [itemI] at e
      split at e
      · cases q : atI z'.cps.toList i with
        | none => rw [q] at e; cases e
        | some c =>
          rw [q] at e; cases e
          exact .inr (.inr ⟨z', i, c, rfl, rfl, by omega, q, k cm H _ (Ext.refl _ _) s (.str _)⟩)
      · cases e
    | _ => exact seq e
  | _ => simp [itemI] at e
end
end MK
namespace MK
open PySem L2
section
variable {K : PySem.W.Frag} {mg : Str → Option Value} {σ : L2.St} {H : Hp} {W : WX} {α β : Type}
theorem rd1 {fa : ME} {k : IV → M IV} {Q : VK} (h : rdE K mg W (fun ls => M.bind (fa ls) k) σ H Q) :
    rdE K mg W fa σ H fun x H1 => ∃ cm st a r st', RelS K mg cm st H1 ∧ Rep K mg cm H1 x a ∧ k a st = some (r, st') ∧ Out K mg W σ cm H1 (GE K mg Q) r st' := by
  obtain ⟨cm, ls, st, R, r, st', e, o⟩ := Run.part h
  refine ⟨cm, ls, st, r, st', R, e, ?_⟩
  cases r with
  | val a =>
    intro cm' H' x s
    obtain ⟨r2, st2, e2, o2⟩ := o cm' H' x s
    exact fun y hy => ⟨cm', st', a, r2, st2, s, hy, e2, o2⟩
  | exc c f v => exact o
theorem rd2 {fa fb : ME} {k : IV → IV → M IV} {Q : VK} (h : rdE K mg W (fun ls => M.bind (fa ls) fun a => M.bind (fb ls) fun b => k a b) σ H Q) :
    rdE K mg W fa σ H fun x H1 => rdE K mg W fb σ H1 fun y H2 => ∃ cm st a b r st', RelS K mg cm st H2 ∧ Rep K mg cm H2 x a ∧ Rep K mg cm H2 y b ∧ k a b st = some (r, st') ∧ Out K mg W σ cm H2 (GE K mg Q) r st' := by
  obtain ⟨cm, ls, st, r, st', R, e, o⟩ := h
  rcases M.bind_inv e with ⟨a, st1, e1, e2⟩ | ⟨c, f, v, e1, rfl⟩
  · refine ⟨cm, ls, st, _, st1, R, e1, fun cm1 H1 x1 s1 y hy => ?_⟩
    rcases M.bind_inv e2 with ⟨b, st2, e3, e4⟩ | ⟨c, f, v, e3, rfl⟩
    · refine ⟨cm1, ls, st1, _, st2, R.ext x1 s1, e3, fun cm2 H2 x2 s2 z hz => ?_⟩
      refine ⟨cm2, st2, a, b, r, st', s2, hy.ext x2, hz, e4, ?_⟩
      cases r with
      | val b => exact fun cm3 H3 x3 s3 => o cm3 H3 ((x1.trans x2).trans x3) s3
      | exc c f v => exact fun cm3 H3 x3 s3 => o cm3 H3 ((x1.trans x2).trans x3) s3
    · exact ⟨cm1, ls, st1, _, st', R.ext x1 s1, e3, fun cm2 H2 x2 s2 => o cm2 H2 (x1.trans x2) s2⟩
  · exact ⟨cm, ls, st, _, st', R, e1, o⟩
def opM (g : Sto → IV → IV → Option IV) (a b : IV) : M IV := fun st => (g st a b).map fun v => (.val v, st)
def m2 (g : Sto → IV → IV → Option IV) (fa fb : ME) : ME := fun ls => M.bind (fa ls) fun a => M.bind (fb ls) fun b => opM g a b
theorem rd_op {r : R2} {g : Sto → IV → IV → Option IV} {fa fb : ME} {Q : VK} (ho : OpV K mg r g) (h : rdE K mg W (m2 g fa fb) σ H Q) : tOp r (rdE K mg W fa) (rdE K mg W fb) σ H Q := by
  refine rdE_mono (rd2 h) fun x H1 h1 => rdE_mono h1 fun y H2 h2 => ?_
  obtain ⟨cm, st, a, b, o, st', s, hx, hy, e, q⟩ := h2
  unfold opM at e
  cases q1 : g st a b with
  | none => rw [q1] at e; cases e
  | some v =>
    rw [q1] at e
    cases e
    exact ho cm st H2 x y a b v Q s hx hy q1 fun cm' H' z E s' hz => q cm' H' E s' z hz
where
  rdE_mono {f : ME} {σ : L2.St} {H : Hp} {Q Q' : VK} (h : rdE K mg W f σ H Q) (i : ∀ x H, Q x H → Q' x H) : rdE K mg W f σ H Q' := by
    obtain ⟨cm, ls, st, r, st', R, e, o⟩ := h
    refine ⟨cm, ls, st, r, st', R, e, ?_⟩
    cases r with
    | val a => exact fun cm' H' x s y hy => i y H' (o cm' H' x s y hy)
    | exc c f v => exact o
theorem rdE_mono {f : ME} {σ : L2.St} {H : Hp} {Q Q' : VK} (h : rdE K mg W f σ H Q) (i : ∀ x H, Q x H → Q' x H) : rdE K mg W f σ H Q' := rd_op.rdE_mono h i
end
section
variable {X : Cx} {W : WX} {a b c e : Expr} {fa fb fc : ME} {pos : Pos}
abbrev PE' (X : Cx) (W : WX) (e : Expr) (m : ME) : Prop := PE X e (rdE X.K X.mg W m)
abbrev PT' (X : Cx) (W : WX) (e : Expr) (m : MT) : Prop := PT X e (rdT X.K X.mg W m)
abbrev PA' (X : Cx) (W : WX) (es : List Expr) (m : MA) : Prop := PA X es (rdA X.K X.mg W m)
def mVar (i : Nat) : ME := fun ls => match ls[i]? with
  | some (some v) => M.ret v
  | _ => M.stuck
theorem e_var (i : Nat) {x : Str} (hN : X.N[i]? = some x := by rfl) (hv : Vis X.env.scope x := by first | exact Or.inl rfl | exact Or.inr (Or.inl rfl) | exact Or.inr (Or.inr rfl)) (hd : (x == ("__debug__" : Str)) = false := by decide)
    (hcd : (x == ("__classdict__" : Str)) = false := by decide) : PE' X W (.Name x pos) (mVar i) := by
  refine PE_imp (pe_var hN hv hd hcd) fun σ H Q h => ?_
  obtain ⟨cm, ls, st, r, st', R, e, o⟩ := h
  unfold mVar at e
  cases q : ls[i]? with
  | none => simp only [q] at e; cases e
  | some w =>
    cases w with
    | none => simp only [q] at e; cases e
    | some v =>
      simp only [q] at e
      cases e
      obtain ⟨y, h1, h2⟩ := R.loc.at' i v q
      exact ⟨y, h1, o cm H (Ext.refl _ _) R.sto y h2⟩
def mC (v : IV) : ME := fun _ => M.ret v
theorem rd_c {K : PySem.W.Frag} {mg : Str → Option Value} {σ : L2.St} {H : Hp} {Q : VK} {v : IV} {x : V} (hx : ∀ cm, Rep K mg cm H x v) (h : rdE K mg W (mC v) σ H Q) : tC x σ H Q := by
  obtain ⟨cm, ls, st, r, st', R, e, o⟩ := h
  cases e
  exact o cm H (Ext.refl _ _) R.sto x (hx cm)
theorem e_int {i j} : PE' X W (.Constant (.int i) j pos) (mC (.int i)) := PE_imp pe_int fun _ _ _ h => rd_c (fun _ => .int _) h
theorem e_bl {i j} : PE' X W (.Constant (.bool i) j pos) (mC (.bl i)) := PE_imp pe_bl fun _ _ _ h => rd_c (fun _ => .bl _) h
theorem e_non {j} : PE' X W (.Constant .none j pos) (mC .non) := PE_imp pe_non fun _ _ _ h => rd_c (fun _ => .non) h
theorem e_str {i j} : PE' X W (.Constant (.str i) j pos) (mC (.str i)) := PE_imp pe_str fun _ _ _ h => rd_c (fun _ => .str _) h
theorem e_globI {x : Str} {i : Int} {t : Tok} (hg : Gl X x) (hm : X.mg x = some (.int i t)) (hd : (x == ("__debug__" : Str)) = false := by decide) : PE' X W (.Name x pos) (mC (.int i)) :=
  PE_imp (pe_glob (v := .int i) hg hm ⟨t, rfl⟩ hd) fun _ _ _ h => rd_c (fun _ => .int _) h
theorem e_add (ha : PE' X W a fa) (hb : PE' X W b fb) : PE' X W (.BinOp a .Add b pos) (m2 addI fa fb) := PE_imp (pe_op op_addI ha hb) fun _ _ _ h => rd_op v_add h
theorem e_sub (ha : PE' X W a fa) (hb : PE' X W b fb) : PE' X W (.BinOp a .Sub b pos) (m2 subI fa fb) := PE_imp (pe_op op_sub ha hb) fun _ _ _ h => rd_op v_sub h
theorem e_mul (ha : PE' X W a fa) (hb : PE' X W b fb) : PE' X W (.BinOp a .Mult b pos) (m2 mulI fa fb) := PE_imp (pe_op op_mulI ha hb) fun _ _ _ h => rd_op v_mul h
theorem e_fdiv (ha : PE' X W a fa) (hb : PE' X W b fb) : PE' X W (.BinOp a .FloorDiv b pos) (m2 fdivI fa fb) := PE_imp (pe_op op_fdivW ha hb) fun _ _ _ h => rd_op v_fdiv h
theorem e_mod (ha : PE' X W a fa) (hb : PE' X W b fb) : PE' X W (.BinOp a .Mod b pos) (m2 modI fa fb) := PE_imp (pe_op op_mod ha hb) fun _ _ _ h => rd_op v_mod h
theorem e_pow (ha : PE' X W a fa) (hb : PE' X W b fb) : PE' X W (.BinOp a .Pow b pos) (m2 powI fa fb) := PE_imp (pe_op op_pow ha hb) fun _ _ _ h => rd_op v_pow h
structure CmpV (X : Cx) (op : CmpOp) (g : Sto → IV → IV → Option IV) : Prop where
  ex : ∃ r, OpR X (compareOp op) r ∧ OpV X.K X.mg r g
  ne : op ≠ .In ∧ op ≠ .NotIn ∨ True
theorem c_lt : CmpV X .Lt (cmpI fun i j => decide (i < j)) := ⟨⟨_, op_lt, v_cmp⟩, .inr trivial⟩
theorem c_le : CmpV X .LtE (cmpI fun i j => decide (i ≤ j)) := ⟨⟨_, op_le, v_cmp⟩, .inr trivial⟩
theorem c_gt : CmpV X .Gt (cmpI fun i j => decide (j < i)) := ⟨⟨_, op_gt, v_cmp⟩, .inr trivial⟩
theorem c_ge : CmpV X .GtE (cmpI fun i j => decide (j ≤ i)) := ⟨⟨_, op_ge, v_cmp⟩, .inr trivial⟩
theorem c_is : CmpV X .Is isI := ⟨⟨_, op_isI, v_is⟩, .inr trivial⟩
theorem c_eq (hu : X.A.units + 64 < cLine) : CmpV X .Eq eqI := ⟨⟨_, op_eqD hu, v_eq⟩, .inr trivial⟩
theorem c_ne (hu : X.A.units + 64 < cLine) : CmpV X .NotEq neI := ⟨⟨_, op_neD hu, v_ne⟩, .inr trivial⟩
theorem c_in (hu : X.A.units + 65 < cLine) : CmpV X .In inI := ⟨⟨_, op_inI hu, v_in⟩, .inr trivial⟩
theorem c_notIn (hu : X.A.units + 65 < cLine) : CmpV X .NotIn notInI := ⟨⟨_, op_notInI hu, v_notIn⟩, .inr trivial⟩
theorem e_cmp {op : CmpOp} {g : Sto → IV → IV → Option IV} (hc : CmpV X op g) (ha : PE' X W a fa) (hb : PE' X W b fb) (hm : behindInMarks op b = false := by first | exact nomark _ | with_unfolding_all rfl) : PE' X W (.Compare a [op] [b] pos) (m2 g fa fb) := by
  obtain ⟨r, h1, h2⟩ := hc.ex
  exact PE_imp (pe_cmpR h1 ha hb hm) fun _ _ _ h => rd_op h2 h
def mB (m : ME) : MT := fun ls => M.bind (m ls) fun v => match v with | .bl b => M.ret b | _ => M.stuck
theorem rd_B {K : PySem.W.Frag} {mg : Str → Option Value} {σ : L2.St} {H : Hp} {Q : Bool → Hp → Prop} {m : ME} (h : rdT K mg W (mB m) σ H Q) : tTest (rdE K mg W m) σ H Q := by
  obtain ⟨cm, ls, st, R, r, st', e, o⟩ := Run.part h
  refine ⟨cm, ls, st, r, st', R, e, ?_⟩
  cases r with
  | val a =>
    intro cm' H' x s y hy
    obtain ⟨r2, st2, e2, o2⟩ := o cm' H' x s
    cases a with
    | bl b =>
      cases e2
      cases hy
      exact ⟨b, rfl, o2 cm' H' (Ext.refl _ _) s⟩
    | _ => cases e2
  | exc c f v => exact o
theorem t_cmp {op : CmpOp} {g : Sto → IV → IV → Option IV} (hc : CmpV X op g) (ha : PE' X W a fa) (hb : PE' X W b fb) (hm : behindInMarks op b = false := by first | exact nomark _ | with_unfolding_all rfl) : PT' X W (.Compare a [op] [b] pos) (mB (m2 g fa fb)) := by
  obtain ⟨r, h1, h2⟩ := hc.ex
  refine PT_imp (pt_cmpR h1 ha hb hm) fun σ H Q h => ?_
  obtain ⟨cm, ls, st, r, st', R, e, o⟩ := rd_B h
  exact rd_op h2 ⟨cm, ls, st, r, st', R, e, o⟩
end
end MK
namespace MK
open PySem L2
def truthI (st : Sto) : IV → Option Bool
  | .non => some false
  | .bl b => some b
  | .int i => some (i != 0)
  | .str y => if y.length ≤ 16777216 then some ((y.length : Int) != 0) else none
  | .tup l => some (!l.isEmpty)
  | .lst l => some (!l.isEmpty)
  | .scr l => some (!l.isEmpty)
  | .cell n => match st[n]? with | some (.lst l) => some (!l.isEmpty) | _ => none
  | _ => none
def truthM (v : IV) : M Bool := fun st => (truthI st v).map fun b => (.val b, st)
def mT (m : ME) : MT := fun ls => M.bind (m ls) truthM
section
variable {K : PySem.W.Frag} {mg : Str → Option Value} {σ : L2.St} {H : Hp} {W : WX} {cm : Wd} {st : Sto} {x : V} {a : IV}
theorem isEmpty_rep {xs : List V} {l : List IV} (r : RepL K mg cm H xs l) : (!xs.isEmpty) = !l.isEmpty := by cases r <;> rfl
theorem truth_rep {b : Bool} (s : RelS K mg cm st H) (h : Rep K mg cm H x a) (e : truthI st a = some b) : TruV K x H b := by
  have z := sizeLine_eq
  have seq : ∀ l, asSeq st a = some l → b = !l.isEmpty → TruV K x H b := fun l e1 e2 => by
    obtain ⟨p, xs, rfl, h2, h3⟩ := asSeq_rep s h e1
    have q := isEmpty_rep h3
    rcases h2 with h2 | h2
    · exact .inl ⟨xs, h2, by rw [q]; exact e2⟩
    · exact .inr (.inl ⟨xs, h2, by rw [q]; exact e2⟩)
  cases a with
  | non => cases h; cases e; rfl
  | bl => cases h; cases e; rfl
  | int => cases h; cases e; rfl
  | str y =>
    cases h
    simp only [truthI] at e
    split at e
    · cases e; exact ⟨by omega, rfl⟩
    · cases e
  | tup l => cases e; exact seq l rfl rfl
  | lst l => cases e; exact seq l rfl rfl
  | scr l => cases e; exact seq l rfl rfl
  | cell n =>
    simp only [truthI] at e
    cases q : st[n]? with
    | none => rw [q] at e; cases e
    | some c =>
      rw [q] at e
      cases c with
      | ins => cases e
      | lst l => cases e; exact seq l (by simp only [asSeq, lstOf, q]) rfl
  | _ => cases e
theorem rdT_mono {f : MT} {σ : L2.St} {H : Hp} {Q Q' : Bool → Hp → Prop} (h : rdT K mg W f σ H Q) (i : ∀ x H, Q x H → Q' x H) : rdT K mg W f σ H Q' := by
  obtain ⟨cm, ls, st, r, st', R, e, o⟩ := h
  refine ⟨cm, ls, st, r, st', R, e, ?_⟩
  cases r with
  | val a => exact fun cm' H' x s => i a H' (o cm' H' x s)
  | exc c f v => exact o
theorem rdA_mono {f : MA} {σ : L2.St} {H : Hp} {Q Q' : List V → Hp → Prop} (h : rdA K mg W f σ H Q) (i : ∀ x H, Q x H → Q' x H) : rdA K mg W f σ H Q' := by
  obtain ⟨cm, ls, st, r, st', R, e, o⟩ := h
  refine ⟨cm, ls, st, r, st', R, e, ?_⟩
  cases r with
  | val a => exact fun cm' H' x s y hy => i y H' (o cm' H' x s y hy)
  | exc c f v => exact o
theorem rd_T {m : ME} {Q : Bool → Hp → Prop} (h : rdT K mg W (mT m) σ H Q) : (fun σ H Q => rdE K mg W m σ H fun x H' => ∃ k, TruV K x H' k ∧ Q k H') σ H Q := by
  obtain ⟨cm, ls, st, R, r, st', e, o⟩ := Run.part h
  refine ⟨cm, ls, st, r, st', R, e, ?_⟩
  cases r with
  | val a =>
    intro cm' H' x s y hy
    obtain ⟨r2, st2, e2, o2⟩ := o cm' H' x s
    unfold truthM at e2
    cases q : truthI st' a with
    | none => rw [q] at e2; cases e2
    | some b =>
      rw [q] at e2; cases e2
      exact ⟨b, truth_rep s hy q, o2 cm' H' (Ext.refl _ _) s⟩
  | exc c f v => exact o
end
section
variable {X : Cx} {W : WX} {a b c e : Expr} {fa fb fc : ME} {ta tb tc : MT} {pos : Pos} {rest : List Expr}
theorem t_val (ha : PE' X W a fa) (he : ∀ whole, isTrue a X.env whole = (do let v ← whole; standAt a.pos; holding [v] (truthy v)) := by intro _; rfl) : PT' X W a (mT fa) :=
  PT_imp (pt_truth ha he) fun _ _ _ h => rd_T h
def mNot (m : MT) : MT := fun ls => M.bind (m ls) fun b => M.ret (!b)
theorem t_not (h : PT' X W a ta) : PT' X W (.UnaryOp .Not a pos) (mNot ta) := by
  refine PT_imp (pt_not h) fun σ H Q h => ?_
  obtain ⟨cm, ls, st, R, r, st', e, o⟩ := Run.part h
  refine ⟨cm, ls, st, r, st', R, e, ?_⟩
  cases r with
  | val a =>
    intro cm' H' x s
    obtain ⟨r2, st2, e2, o2⟩ := o cm' H' x s
    cases e2
    exact o2 cm' H' (Ext.refl _ _) s
  | exc c f v => exact o
def mIte {α : Type} (c : MT) (t f : Loc → M α) : Loc → M α := fun ls => M.bind (c ls) fun b => if b = true then t ls else f ls
section
variable {K : PySem.W.Frag} {mg : Str → Option Value}
theorem rd_ite {α : Type} {σ : L2.St} {H : Hp} {c : MT} {t f : Loc → M α} {G : Wd → Hp → α → Prop} (h : Run K mg W σ H (mIte c t f) G) (hG : ∀ cm H cm' H' a, Ext cm H cm' H' → G cm' H' a → G cm' H' a := by intros; assumption) :
    rdT K mg W c σ H fun b H1 => Run K mg W σ H1 (if b = true then t else f) G := by
  obtain ⟨cm, ls, st, r, st', R, e, o⟩ := h
  rcases M.bind_inv e with ⟨b, st1, e1, e2⟩ | ⟨c', f', v, e1, rfl⟩
  · refine ⟨cm, ls, st, _, st1, R, e1, fun cm1 H1 x1 s1 => ⟨cm1, ls, st1, r, st', R.ext x1 s1, ?_, ?_⟩⟩
    · cases b <;> exact e2
    · cases r with
      | val a => exact fun cm2 H2 x2 s2 => o cm2 H2 (x1.trans x2) s2
      | exc c f v => exact fun cm2 H2 x2 s2 => o cm2 H2 (x1.trans x2) s2
  · exact ⟨cm, ls, st, _, st', R, e1, o⟩
end
def mTB (b : Bool) : MT := fun _ => M.ret b
theorem rd_tb {K : PySem.W.Frag} {mg : Str → Option Value} {σ : L2.St} {H : Hp} {b : Bool} {Q : Bool → Hp → Prop} (h : rdT K mg W (mTB b) σ H Q) : Q b H := by
  obtain ⟨cm, ls, st, r, st', R, e, o⟩ := h
  cases e
  exact o cm H (Ext.refl _ _) R.sto
abbrev PW' (X : Cx) (W : WX) (e : Expr) (m : MT) : Prop := PW X e (rdT X.K X.mg W m)
theorem w_and1 (h : PT' X W a ta) : PW' X W (.BoolOp .And [a] pos) ta := pw_and1 h
theorem w_or1 (h : PT' X W a ta) : PW' X W (.BoolOp .Or [a] pos) ta := pw_or1 h
theorem w_and (ha : PT' X W a ta) (hb : PW' X W (.BoolOp .And (b :: rest) pos) tb) : PW' X W (.BoolOp .And (a :: b :: rest) pos) (mIte ta tb (mTB false)) := by
  refine PW_imp (pw_and ha hb) fun σ H Q h => rdT_mono (rd_ite h) fun k H1 h1 => ?_
  cases k with
  | true => exact h1
  | false => exact rd_tb h1
theorem w_or (ha : PT' X W a ta) (hb : PW' X W (.BoolOp .Or (b :: rest) pos) tb) : PW' X W (.BoolOp .Or (a :: b :: rest) pos) (mIte ta (mTB true) tb) := by
  refine PW_imp (pw_or ha hb) fun σ H Q h => rdT_mono (rd_ite h) fun k H1 h1 => ?_
  cases k with
  | true => exact rd_tb h1
  | false => exact h1
theorem t_w (h : PW' X W a ta) : PT' X W a ta := h.pt
theorem e_ifx (hc : PT' X W c tc) (ha : PE' X W a fa) (hb : PE' X W b fb) : PE' X W (.IfExp c a b pos) (mIte tc fa fb) := by
  refine PE_imp (pe_ifExp hc ha hb) fun σ H Q h => rdT_mono (rd_ite h) fun k H1 h1 => ?_
  cases k <;> exact h1
def mNotV (m : ME) : ME := fun ls => M.bind (m ls) fun v => M.bind (truthM v) fun b => M.ret (.bl (!b))
theorem truthM_inv {v : IV} {st st' : Sto} {r : OX Bool} (h : truthM v st = some (r, st')) : ∃ b, truthI st v = some b ∧ r = .val b ∧ st' = st := by
  unfold truthM at h
  cases q : truthI st v with
  | none => rw [q] at h; cases h
  | some b => rw [q] at h; cases h; exact ⟨b, rfl, rfl, rfl⟩
theorem e_notV (h : PE' X W a fa) : PE' X W (.UnaryOp .Not a pos) (mNotV fa) := by
  refine PE_imp (pe_notT h) fun σ H Q h => rdE_mono (rd1 h) fun x H1 h1 => ?_
  obtain ⟨cm, st, v, r, st', s, hx, e, o⟩ := h1
  rcases M.bind_inv e with ⟨b, st1, e1, e2⟩ | ⟨c, f, v, e1, rfl⟩
  · obtain ⟨b', q, h1, rfl⟩ := truthM_inv e1
    cases h1
    cases e2
    exact ⟨b, truth_rep s hx q, o cm H1 (Ext.refl _ _) s _ (.bl _)⟩
  · obtain ⟨b', q, h1, _⟩ := truthM_inv e1
    cases h1
def mAndV (fa fb : ME) : ME := fun ls => M.bind (fa ls) fun v => M.bind (truthM v) fun b => if b = true then fb ls else M.ret v
def mOrV (fa fb : ME) : ME := fun ls => M.bind (fa ls) fun v => M.bind (truthM v) fun b => if b = true then M.ret v else fb ls
theorem e_and1 (h : PE' X W a fa) {op} : PE' X W (.BoolOp op [a] pos) fa := pe_one h
theorem rd_andor {K : PySem.W.Frag} {mg : Str → Option Value} {σ : L2.St} {H : Hp} {Q : VK} {k : Loc → IV → Bool → M IV} (h : rdE K mg W (fun ls => M.bind (fa ls) fun v => M.bind (truthM v) fun b => k ls v b) σ H Q) :
    rdE K mg W fa σ H fun x H1 => ∃ b, TruV K x H1 b ∧ ∃ cm ls st v r st', Rel K mg cm ls st σ H1 ∧ Rep K mg cm H1 x v ∧ k ls v b st = some (r, st') ∧ Out K mg W σ cm H1 (GE K mg Q) r st' := by
  obtain ⟨cm, ls, st, r, st', R, e, o⟩ := h
  rcases M.bind_inv e with ⟨v, st1, e1, e2⟩ | ⟨c, f, v, e1, rfl⟩
  · refine ⟨cm, ls, st, _, st1, R, e1, fun cm1 H1 x1 s1 y hy => ?_⟩
    rcases M.bind_inv e2 with ⟨b, st2, e3, e4⟩ | ⟨c, f, v, e3, rfl⟩
    · obtain ⟨b', q, h1, rfl⟩ := truthM_inv e3
      cases h1
      refine ⟨b, truth_rep s1 hy q, cm1, ls, _, v, r, st', R.ext x1 s1, hy, e4, ?_⟩
      cases r with
      | val a => exact fun cm2 H2 x2 s2 => o cm2 H2 (x1.trans x2) s2
      | exc c f v => exact fun cm2 H2 x2 s2 => o cm2 H2 (x1.trans x2) s2
    · obtain ⟨b', q, h1, _⟩ := truthM_inv e3
      cases h1
  · exact ⟨cm, ls, st, _, st', R, e1, o⟩
theorem e_and (ha : PE' X W a fa) (hb : PE' X W (.BoolOp .And (b :: rest) pos) fb) : PE' X W (.BoolOp .And (a :: b :: rest) pos) (mAndV fa fb) := by
  refine PE_imp (pe_andT ha hb) fun σ H Q h => rdE_mono (rd_andor h) fun x H1 h1 => ?_
  obtain ⟨k, t, cm, ls, st, v, r, st', R, hx, e, o⟩ := h1
  refine ⟨k, t, ?_⟩
  cases k with
  | true => exact ⟨cm, ls, st, r, st', R, e, o⟩
  | false =>
    cases e
    exact o cm H1 (Ext.refl _ _) R.sto x hx
theorem e_or (ha : PE' X W a fa) (hb : PE' X W (.BoolOp .Or (b :: rest) pos) fb) : PE' X W (.BoolOp .Or (a :: b :: rest) pos) (mOrV fa fb) := by
  refine PE_imp (pe_orT ha hb) fun σ H Q h => rdE_mono (rd_andor h) fun x H1 h1 => ?_
  obtain ⟨k, t, cm, ls, st, v, r, st', R, hx, e, o⟩ := h1
  refine ⟨k, t, ?_⟩
  cases k with
  | false => exact ⟨cm, ls, st, r, st', R, e, o⟩
  | true =>
    cases e
    exact o cm H1 (Ext.refl _ _) R.sto x hx
def negI : IV → Option IV
  | .int i => some (.int (-i))
  | _ => none
def m1 (g : IV → Option IV) (m : ME) : ME := fun ls => M.bind (m ls) fun v => M.opt (g v)
theorem e_neg (h : PE' X W a fa) : PE' X W (.UnaryOp .USub a pos) (m1 negI fa) := by
  refine PE_imp (pe_un un_neg h) fun σ H Q h => rdE_mono (rd1 h) fun x H1 h1 => ?_
  obtain ⟨cm, st, v, r, st', s, hx, e, o⟩ := h1
  cases v <;> simp only [negI, M.opt] at e <;> cases e
  cases hx
  exact ⟨_, rfl, o cm H1 (Ext.refl _ _) s _ (.int _)⟩
end
end MK
namespace MK
open PySem L2
def newL (c : Bool) (l : List IV) : M IV := fun st => match c with
  | false => some (.val (.lst l), st)
  | true => if pureL l = true then some (.val (.cell st.length), st ++ [.lst l]) else none
section
variable {K : PySem.W.Frag} {mg : Str → Option Value} {σ : L2.St} {H H' : Hp} {W : WX} {cm : Wd} {st st' : Sto} {Q : VK} {c : Bool} {l : List IV} {xs : List V} {r : OX IV} {p : Addr}
theorem newL_at (s : RelS K mg cm st H) (e : newL c l st = some (r, st')) (n : H p = none) (E : Ext cm H (cm.push p) H') (E0 : Ext cm H cm H') (k : ∀ a ∈ cm.cm, H' a = H a) (h : H' p = some (.lst xs)) (hr : RepL K mg (cm.avoid p) H' xs l)
    (o : Out K mg W σ cm H (GE K mg Q) r st') : Q (.ref p) H' := by
  have hp := s.notAv n
  cases c with
  | false =>
    cases e
    exact o cm H' E0 (s.ext E0 k) (.ref p) (.lst ⟨h, hp⟩ (hr.weak Weak.unavoid))
  | true =>
    simp only [newL] at e
    split at e
    · rename_i q
      cases e
      refine o (cm.push p) H' E (s.push n E k ⟨_, h⟩ ⟨xs, h, hr.weak Weak.push, q⟩) (.ref p) (.cell ?_)
      show (cm.cm ++ [p])[st.length]? = some p
      rw [← s.len, List.getElem?_append_right (Nat.le_refl _)]
      simp
    · cases e
theorem newL_new (s : RelS K mg cm st H) (e : newL c l st = some (r, st')) (n : H p = none) (hr : RepL K mg cm H xs l)
    (o : Out K mg W σ cm H (GE K mg Q) r st') : Q (.ref p) (upd H p (.lst xs)) :=
  newL_at s e n (Ext.push n) (Ext.new' n) (fun a m => upd_ne fun z => s.notCell n (z ▸ m)) upd_same (hr.ext (Ext.avoid n)) o
end
def mNil : MA := fun _ => M.ret []
def mCons (f : ME) (g : MA) : MA := fun ls => M.bind (f ls) fun v => M.bind (g ls) fun l => M.ret (v :: l)
def mTup (g : MA) : ME := fun ls => M.bind (g ls) fun l => if l.length ≤ 16777216 then M.ret (.tup l) else M.stuck
def mLst (c : Bool) (g : MA) : ME := fun ls => M.bind (g ls) fun l => if l.length ≤ 16777216 then newL c l else M.stuck
section
variable {K : PySem.W.Frag} {mg : Str → Option Value} {σ : L2.St} {H : Hp} {W : WX}
theorem rdA1 {α : Type} {fa : MA} {k : List IV → M α} {G : Wd → Hp → α → Prop} (h : Run K mg W σ H (fun ls => M.bind (fa ls) k) G) :
    rdA K mg W fa σ H fun xs H1 => ∃ cm st l r st', RelS K mg cm st H1 ∧ RepL K mg cm H1 xs l ∧ k l st = some (r, st') ∧ Out K mg W σ cm H1 G r st' := by
  obtain ⟨cm, ls, st, R, r, st', e, o⟩ := Run.part h
  refine ⟨cm, ls, st, r, st', R, e, ?_⟩
  cases r with
  | val a =>
    intro cm' H' x s
    obtain ⟨r2, st2, e2, o2⟩ := o cm' H' x s
    exact fun y hy => ⟨cm', st', a, r2, st2, s, hy, e2, o2⟩
  | exc c f v => exact o
theorem rd_nil {Q : List V → Hp → Prop} (h : rdA K mg W mNil σ H Q) : tNil σ H Q := by
  obtain ⟨cm, ls, st, r, st', R, e, o⟩ := h
  cases e
  exact o cm H (Ext.refl _ _) R.sto [] .nil
theorem rd_cons {f : ME} {g : MA} {Q : List V → Hp → Prop} (h : rdA K mg W (mCons f g) σ H Q) : tCons (rdE K mg W f) (rdA K mg W g) σ H Q := by
  obtain ⟨cm, ls, st, r, st', R, e, o⟩ := h
  rcases M.bind_inv e with ⟨a, st1, e1, e2⟩ | ⟨c, f, v, e1, rfl⟩
  · refine ⟨cm, ls, st, _, st1, R, e1, fun cm1 H1 x1 s1 y hy => ?_⟩
    rcases M.bind_inv e2 with ⟨b, st2, e3, e4⟩ | ⟨c, f, v, e3, rfl⟩
    · refine ⟨cm1, ls, st1, _, st2, R.ext x1 s1, e3, fun cm2 H2 x2 s2 z hz => ?_⟩
      cases e4
      exact o cm2 H2 (x1.trans x2) s2 (y :: z) (.cons (hy.ext x2) hz)
    · exact ⟨cm1, ls, st1, _, st', R.ext x1 s1, e3, fun cm2 H2 x2 s2 => o cm2 H2 (x1.trans x2) s2⟩
  · exact ⟨cm, ls, st, _, st', R, e1, o⟩
end
section
variable {X : Cx} {W : WX} {a b c e : Expr} {es : List Expr} {fa fb fc : ME} {g : MA} {pos : Pos}
theorem a_nil : PA' X W [] mNil := PA_imp pa_nil fun _ _ _ h => rd_nil h
theorem a_cons (ha : PE' X W e fa) (hr : PA' X W es g) (hs : starEach (e :: es) X.env = (false, eval e X.env) :: starEach es X.env := by rfl) : PA' X W (e :: es) (mCons fa g) := PA_imp (pa_cons ha hr hs) fun _ _ _ h => rd_cons h
theorem e_tup {x1} (h : PA' X W es g) : PE' X W (.Tuple es x1 pos) (mTup g) := by
  refine PE_imp (pe_tup h) fun σ H Q h => rdA_mono (rdA1 h) fun xs H1 h1 => ?_
  obtain ⟨cm, st, l, r, st', s, hx, e, o⟩ := h1
  split at e
  · cases e
    refine ⟨by rw [hx.length, sizeLine_eq]; assumption, fun p hp => ?_⟩
    exact o cm _ (Ext.new' hp) (s.new hp) _ (.tup (.inl ⟨.inl upd_same, s.notAv hp⟩) (hx.ext (Ext.new' hp)))
  · cases e
theorem e_lst (c : Bool) (h : PA' X W es g) : PE' X W (.List es pos) (mLst c g) := by
  refine PE_imp (pe_lst h) fun σ H Q h => rdA_mono (rdA1 h) fun xs H1 h1 => ?_
  obtain ⟨cm, st, l, r, st', s, hx, e, o⟩ := h1
  split at e
  · exact ⟨by rw [hx.length, sizeLine_eq]; assumption, fun p hp => newL_new s e hp hx o⟩
  · cases e
def catL (c : Bool) (a b : IV) : M IV := fun st => match lstOf st a, lstOf st b with
  | some l, some m => if l.length + m.length ≤ 16777216 then newL c (l ++ m) st else none
  | _, _ => none
def mCat (c : Bool) (fa fb : ME) : ME := fun ls => M.bind (fa ls) fun a => M.bind (fb ls) fun b => catL c a b
theorem e_cat (c : Bool) (ha : PE' X W a fa) (hb : PE' X W b fb) : PE' X W (.BinOp a .Add b pos) (mCat c fa fb) := by
  refine PE_imp (pe_op op_cat ha hb) fun σ H Q h => rdE_mono (rd2 h) fun x H1 h1 => rdE_mono h1 fun y H2 h2 => ?_
  obtain ⟨cm, st, a, b, r, st', s, hx, hy, e, o⟩ := h2
  unfold catL at e
  cases e1 : lstOf st a with
  | none => rw [e1] at e; simp at e
  | some l =>
    cases e2 : lstOf st b with
    | none => rw [e1, e2] at e; simp at e
    | some m =>
      rw [e1, e2] at e
      simp only at e
      split at e
      · obtain ⟨p, xs, rfl, h1, h2⟩ := lstOf_rep s hx e1
        obtain ⟨q, ys, rfl, h3, h4⟩ := lstOf_rep s hy e2
        have l1 := h2.length
        have l2 := h4.length
        have z := sizeLine_eq
        exact ⟨p, q, xs, ys, rfl, rfl, h1, h3, by omega, fun c hc => newL_new s e hc (h2.app h4) o⟩
      · cases e
theorem e_ix (ha : PE' X W a fa) (hb : PE' X W b fb) (hs : PlainIx b := by intro _ _; rfl) : PE' X W (.Subscript a b pos) (m2 itemI fa fb) := PE_imp (pe_ix ix_seq ha hb hs) fun _ _ _ h => rd_op v_item h
abbrev MO := Loc → M (Option Int)
def mNoPart : MO := fun _ => M.ret none
def mPart (f : ME) : MO := fun ls => M.bind (f ls) fun v => match v with | .int i => M.ret (some i) | _ => M.stuck
def rdO (K : PySem.W.Frag) (mg : Str → Option Value) (W : WX) (m : MO) : TO := fun σ H Q => Run K mg W σ H m fun _ H' o => Q o H'
abbrev PO' (X : Cx) (W : WX) (e : Option Expr) (m : MO) : Prop := PO X e (rdO X.K X.mg W m)
theorem PO_imp {X : Cx} {e : Option Expr} {t t' : TO} (h : PO X e t) (i : ∀ σ H Q, t' σ H Q → t σ H Q) : PO X e t' := ⟨fun pins s σ H Q I q => h.run pins s σ H Q I (i σ H Q q)⟩
theorem o_none : PO' X W none mNoPart := PO_imp po_none fun σ H Q h => by
  obtain ⟨cm, ls, st, r, st', R, e, o⟩ := h
  cases e
  exact o cm H (Ext.refl _ _) R.sto
theorem o_some (h : PE' X W e fa) : PO' X W (some e) (mPart fa) := PO_imp (po_some h) fun σ H Q h => by
  obtain ⟨cm, ls, st, R, r, st', e, o⟩ := Run.part h
  refine ⟨cm, ls, st, r, st', R, e, ?_⟩
  cases r with
  | val a =>
    intro cm' H' x s y hy
    obtain ⟨r2, st2, e2, o2⟩ := o cm' H' x s
    cases a with
    | int i =>
      cases e2
      cases hy
      exact ⟨i, rfl, o2 cm' H' (Ext.refl _ _) s⟩
    | _ => cases e2
  | exc c f v => exact o
def cutI (xs : List IV) (lo hi : Option Int) : List IV := (xs.drop (HT.sIx xs.length 0 lo)).take (HT.sIx xs.length xs.length hi - HT.sIx xs.length 0 lo)
theorem cut_rep {K : PySem.W.Frag} {mg : Str → Option Value} {cm : Wd} {H : Hp} {xs : List V} {l : List IV} (h : RepL K mg cm H xs l) (lo hi : Option Int) : RepL K mg cm H (cutV xs lo hi) (cutI l lo hi) := by
  unfold cutV cutI
  rw [h.length]
  exact (h.drop _).take _
def slM (c : Bool) (a : IV) (lo hi : Option Int) : M IV := fun st => match a with
  | .str z => if z.length ≤ 16777216 then some (.val (.str (cutS z lo hi)), st) else none
  | .tup l => some (.val (.tup (cutI l lo hi)), st)
  | .scr l => newL c (cutI l lo hi) st
  | a => match lstOf st a with
    | some l => newL c (cutI l lo hi) st
    | none => none
def mSl (c : Bool) (f : ME) (lo hi : MO) : ME := fun ls => M.bind (f ls) fun a => M.bind (lo ls) fun l => M.bind (hi ls) fun h => slM c a l h
def rSlI (K : PySem.W.Frag) : V → Option Int → Option Int → Hp → VK → Prop := fun x lo hi H Q => rSlL K x lo hi H Q ∨ rSlA K x lo hi H Q ∨ rSlS x lo hi H Q
theorem sl_I {X : Cx} : SlR X (rSlI X.K) := sl_list.or (sl_tupA.or sl_str)
theorem cutI_all {l : List IV} {lo hi : Option Int} (h : HT.sIx l.length 0 lo = 0 ∧ HT.sIx l.length l.length hi = l.length) : cutI l lo hi = l := by
  unfold cutI
  rw [h.1, h.2]
  simp
theorem e_sl (c : Bool) {lo hi : Option Expr} {ml mh : MO} {p2 : Pos} (ha : PE' X W a fa) (hl : PO' X W lo ml) (hh : PO' X W hi mh) : PE' X W (.Subscript a (.Slice lo hi none p2) pos) (mSl c fa ml mh) := by
  refine PE_imp (pe_slice sl_I ha hl hh) fun σ H Q h => ?_
  obtain ⟨cm, ls, st, r, st', R, e, o⟩ := h
  rcases M.bind_inv e with ⟨v, st1, e1, e2⟩ | ⟨c, f, v, e1, rfl⟩
  · refine ⟨cm, ls, st, _, st1, R, e1, fun cm1 H1 x1 s1 y hy => ?_⟩
    rcases M.bind_inv e2 with ⟨lo', st2, e3, e4⟩ | ⟨c, f, v, e3, rfl⟩
    · refine ⟨cm1, ls, st1, _, st2, R.ext x1 s1, e3, fun cm2 H2 x2 s2 => ?_⟩
      rcases M.bind_inv e4 with ⟨hi', st3, e5, e6⟩ | ⟨c, f, v, e5, rfl⟩
      · refine ⟨cm2, ls, st2, _, st3, (R.ext x1 s1).ext x2 s2, e5, fun cm3 H3 x3 s3 => ?_⟩
        have hy' := (hy.ext x2).ext x3
        have o' : Out X.K X.mg W σ cm3 H3 (GE X.K X.mg Q) r st' := by
          cases r with
          | val a => exact fun cm4 H4 x4 s4 => o cm4 H4 (((x1.trans x2).trans x3).trans x4) s4
          | exc c f v => exact fun cm4 H4 x4 s4 => o cm4 H4 (((x1.trans x2).trans x3).trans x4) s4
        have lists : ∀ l, lstOf st3 v = some l → newL c (cutI l lo' hi') st3 = some (r, st') → rSlI X.K y lo' hi' H3 Q := fun l q1 q2 => by
          obtain ⟨p, xs, rfl, h1, h2⟩ := lstOf_rep s3 hy' q1
          exact .inl ⟨p, xs, rfl, SqL.of h1, fun p hp => newL_new s3 q2 hp (cut_rep h2 lo' hi') o'⟩
        cases v with
        | str z =>
          cases hy'
          simp only [slM] at e6
          split at e6
          · cases e6
            exact .inr (.inr ⟨z, rfl, by rw [sizeLine_eq]; assumption, o' cm3 H3 (Ext.refl _ _) s3 _ (.str _)⟩)
          · cases e6
        | tup l =>
          cases e6
          cases hy' with
          | @tup p xs _ h1 h2 =>
            refine .inr (.inl ⟨p, xs, rfl, h1.sq, fun w => ?_, fun w q hq => ?_⟩)
            · refine o' cm3 H3 (Ext.refl _ _) s3 _ ?_
              rw [cutI_all (by rw [← h2.length]; exact w)]
              exact .tup h1 h2
            · exact o' cm3 _ (Ext.new' hq) (s3.new hq) _ (.tup (.inl ⟨.inl upd_same, s3.notAv hq⟩) ((cut_rep h2 lo' hi').ext (Ext.new' hq)))
        | scr l =>
          cases hy' with
          | @scr p xs _ h1 h2 =>
            exact .inl ⟨p, xs, rfl, h1.sq, fun p hp => newL_new s3 e6 hp (cut_rep h2 lo' hi') o'⟩
        | lst l => exact lists l rfl e6
        | cell n =>
          simp only [slM] at e6
          cases q : lstOf st3 (.cell n) with
          | none => rw [q] at e6; cases e6
          | some l => rw [q] at e6; exact lists l q e6
        | _ => cases e6
      · exact ⟨cm2, ls, st2, _, st', (R.ext x1 s1).ext x2 s2, e5, fun cm3 H3 x3 s3 => o cm3 H3 ((x1.trans x2).trans x3) s3⟩
    · exact ⟨cm1, ls, st1, _, st', R.ext x1 s1, e3, fun cm2 H2 x2 s2 => o cm2 H2 (x1.trans x2) s2⟩
  · exact ⟨cm, ls, st, _, st', R, e1, o⟩
end
end MK
namespace MK
open PySem L2
def intsOf : List IV → Option (List Int)
  | [] => some []
  | .int i :: l => (intsOf l).map (i :: ·)
  | _ :: _ => none
def boolsOf : List IV → Option (List Bool)
  | [] => some []
  | .bl i :: l => (boolsOf l).map (i :: ·)
  | _ :: _ => none
theorem intsOf_map (l : List Int) : intsOf (l.map .int) = some l := by
  induction l with
  | nil => rfl
  | cons a l ih => simp [intsOf, ih]
theorem boolsOf_map (l : List Bool) : boolsOf (l.map .bl) = some l := by
  induction l with
  | nil => rfl
  | cons a l ih => simp [boolsOf, ih]
theorem intsOf_eq : ∀ {l : List IV} {ns : List Int}, intsOf l = some ns → l = ns.map .int
  | [], _, h => by cases h; rfl
  | a :: l, ns, h => by
    cases a <;> simp only [intsOf] at h <;> try cases h
    rename_i i
    cases q : intsOf l with
    | none => rw [q] at h; cases h
    | some ms => rw [q] at h; cases h; rw [intsOf_eq q]; rfl
theorem boolsOf_eq : ∀ {l : List IV} {ns : List Bool}, boolsOf l = some ns → l = ns.map .bl
  | [], _, h => by cases h; rfl
  | a :: l, ns, h => by
    cases a <;> simp only [boolsOf] at h <;> try cases h
    rename_i i
    cases q : boolsOf l with
    | none => rw [q] at h; cases h
    | some ms => rw [q] at h; cases h; rw [boolsOf_eq q]; rfl
section
variable {K : PySem.W.Frag} {mg : Str → Option Value} {cm : Wd} {H : Hp}
theorem ints_rep : ∀ {ns : List Int} {xs : List V}, RepL K mg cm H xs (ns.map .int) → xs = ns.map V.int
  | [], _, .nil => rfl
  | i :: ns, _, .cons h r => by cases h; rw [ints_rep r]; rfl
theorem rep_ints (ns : List Int) : RepL K mg cm H (ns.map V.int) (ns.map .int) := by
  induction ns with
  | nil => exact .nil
  | cons i ns ih => exact .cons (.int i) ih
theorem bools_rep : ∀ {ns : List Bool} {xs : List V}, RepL K mg cm H xs (ns.map .bl) → xs = ns.map V.bl
  | [], _, .nil => rfl
  | i :: ns, _, .cons h r => by cases h; rw [bools_rep r]; rfl
end
def CallV (K : PySem.W.Frag) (mg : Str → Option Value) (r : List V → Hp → VK → Prop) (g : List IV → M IV) : Prop :=
  ∀ (W : WX) (σ : L2.St) (cm : Wd) (st : Sto) (H : Hp) (xs : List V) (l : List IV) (o : OX IV) (st' : Sto) (Q : VK), RelS K mg cm st H → RepL K mg cm H xs l → g l st = some (o, st') → Out K mg W σ cm H (GE K mg Q) o st' → r xs H Q
def mCall (g : List IV → M IV) (a : MA) : ME := fun ls => M.bind (a ls) g
section
variable {X : Cx} {W : WX} {e : Expr} {es : List Expr} {ga : MA} {x : Str} {p pos : Pos} {id : String} {r : List V → Hp → VK → Prop} {g : List IV → M IV}
theorem e_callB (hc : CallR X (.builtin id) r) (hv : CallV X.K X.mg r g) (hg : Gl X x) (hm : X.mg x = none) (hb : bootBuiltins x = some (.builtin id)) (ha : PA' X W (e :: es) ga) (hn : x ≠ "__name__" := by decide) (hdb : (x == ("__debug__" : Str)) = false := by decide)
    (he : starEach (e :: es) X.env = (false, eval e X.env) :: starEach es X.env := by rfl) (hpl : (backTo pos (starEach es X.env)).any (·.1) = false := by rfl) : PE' X W (.Call (.Name x p) (e :: es) [] pos) (mCall g ga) := by
  refine PE_imp (pe_callB hc hg hm hb ha hn hdb he hpl) fun σ H Q h => rdA_mono (rdA1 h) fun xs H1 h1 => ?_
  obtain ⟨cm, st, l, r, st', s, hx, e, o⟩ := h1
  exact hv W σ cm st H1 xs l r st' Q s hx e o
theorem e_callTy (hc : CallR X (.type id) r) (hv : CallV X.K X.mg r g) (hg : Gl X x) (hm : X.mg x = none) (hb : bootBuiltins x = some (.type id)) (ha : PA' X W (e :: es) ga) (hn : x ≠ "__name__" := by decide) (hdb : (x == ("__debug__" : Str)) = false := by decide)
    (he : starEach (e :: es) X.env = (false, eval e X.env) :: starEach es X.env := by rfl) (hpl : (backTo pos (starEach es X.env)).any (·.1) = false := by rfl) : PE' X W (.Call (.Name x p) (e :: es) [] pos) (mCall g ga) := by
  refine PE_imp (pe_callTy hc hg hm hb ha hn hdb he hpl) fun σ H Q h => rdA_mono (rdA1 h) fun xs H1 h1 => ?_
  obtain ⟨cm, st, l, r, st', s, hx, e, o⟩ := h1
  exact hv W σ cm st H1 xs l r st' Q s hx e o
end
def pv1 (g : Sto → IV → Option IV) : List IV → M IV := fun l st => match l with
  | [a] => (g st a).map fun v => (.val v, st)
  | _ => none
section
variable {K : PySem.W.Frag} {mg : Str → Option Value}
theorem callV1 {r : List V → Hp → VK → Prop} {g : Sto → IV → Option IV}
    (h : ∀ (cm : Wd) (st : Sto) (H : Hp) (x : V) (a v : IV) (Q : VK), RelS K mg cm st H → Rep K mg cm H x a → g st a = some v → (∀ cm' H' z, Ext cm H cm' H' → RelS K mg cm' st H' → Rep K mg cm' H' z v → Q z H') → r [x] H Q) : CallV K mg r (pv1 g) := by
  intro W σ cm st H xs l o st' Q s hx e out
  cases hx with
  | nil => cases e
  | cons h1 h2 =>
    cases h2 with
    | cons _ _ => cases e
    | nil =>
      rename_i x a
      simp only [pv1] at e
      cases q : g st a with
      | none => rw [q] at e; cases e
      | some v => rw [q] at e; cases e; exact h cm _ H x a v Q s h1 q fun cm' H' z E s' hz => out cm' H' E s' z hz
def lenI (st : Sto) : IV → Option IV
  | .str z => if z.length ≤ 16777216 then some (.int z.length) else none
  | a => (asSeq st a).map fun l => .int l.length
theorem v_len : CallV K mg (fun xs H Q => ∃ x n, xs = [x] ∧ LenV K x H n ∧ Q (.int n) H) (pv1 lenI) := callV1 fun cm st H x a v Q s hx e k => by
  have seq : ∀ l, asSeq st a = some l → v = .int l.length → ∃ x' n, [x] = [x'] ∧ LenV K x' H n ∧ Q (.int n) H := fun l q1 q2 => by
    obtain ⟨p, xs, rfl, h2, h3⟩ := asSeq_rep s hx q1
    subst q2
    refine ⟨_, l.length, rfl, ?_, k cm H _ (Ext.refl _ _) s (.int _)⟩
    rcases h2 with h2 | h2
    · exact .inl ⟨xs, h2, h3.length.symm⟩
    · exact .inr ⟨xs, h2, h3.length.symm⟩
  have gen : (asSeq st a).map (fun l => IV.int l.length) = some v → ∃ x' n, [x] = [x'] ∧ LenV K x' H n ∧ Q (.int n) H := fun e => by
    cases q : asSeq st a with
    | none => rw [q] at e; cases e
    | some l => rw [q] at e; cases e; exact seq l q rfl
  cases a with
  | str z =>
    cases hx
    simp only [lenI] at e
    split at e
    · cases e
      exact ⟨_, z.length, rfl, ⟨by rw [sizeLine_eq]; assumption, rfl⟩, k cm H _ (Ext.refl _ _) s (.int _)⟩
    · cases e
  | _ => exact gen e
def intI (_ : Sto) : IV → Option IV
  | .int i => some (.int i)
  | .bl b => some (.int (if b then 1 else 0))
  | _ => none
theorem v_int : CallV K mg (fun xs H Q => (∃ i, xs = [V.int i] ∧ Q (.int i) H) ∨ ∃ k, xs = [V.bl k] ∧ Q (.int (if k then 1 else 0)) H) (pv1 intI) := callV1 fun cm st H x a v Q s hx e k => by
  cases a <;> simp only [intI] at e <;> cases e <;> cases hx
  · exact .inr ⟨_, rfl, k cm H _ (Ext.refl _ _) s (.int _)⟩
  · exact .inl ⟨_, rfl, k cm H _ (Ext.refl _ _) s (.int _)⟩
def absI (_ : Sto) : IV → Option IV
  | .int i => some (.int (if i < 0 then -i else i))
  | _ => none
theorem v_abs : CallV K mg (fun xs H Q => ∃ i, xs = [V.int i] ∧ Q (.int (if i < 0 then -i else i)) H) (pv1 absI) := callV1 fun cm st H x a v Q s hx e k => by
  cases a <;> simp only [absI] at e <;> cases e <;> cases hx
  exact ⟨_, rfl, k cm H _ (Ext.refl _ _) s (.int _)⟩
def seqL (st : Sto) : IV → Option (List IV)
  | .scr l => some l
  | a => lstOf st a
theorem seqL_rep {cm : Wd} {st : Sto} {H : Hp} {x : V} {a : IV} {l : List IV} (s : RelS K mg cm st H) (h : Rep K mg cm H x a) (e : seqL st a = some l) : ∃ p xs, x = .ref p ∧ SqL K H p xs ∧ RepL K mg cm H xs l := by
  cases h with
  | scr h r => simp only [seqL] at e; cases e; exact ⟨_, _, rfl, h.sq, r⟩
  | lst h r =>
    obtain ⟨p, xs, e1, h1, h2⟩ := lstOf_rep s (.lst h r) e
    exact ⟨p, xs, e1, SqL.of h1, h2⟩
  | cell h =>
    obtain ⟨p, xs, e1, h1, h2⟩ := lstOf_rep s (.cell h) e
    exact ⟨p, xs, e1, SqL.of h1, h2⟩
  | _ => cases e
def intsAt (st : Sto) (a : IV) : Option (List Int) := (seqL st a).bind intsOf
theorem intsAt_rep {cm : Wd} {st : Sto} {H : Hp} {x : V} {a : IV} {ns : List Int} (s : RelS K mg cm st H) (h : Rep K mg cm H x a) (e : intsAt st a = some ns) : ∃ p, x = .ref p ∧ SqL K H p (ns.map V.int) := by
  unfold intsAt at e
  cases q : seqL st a with
  | none => rw [q] at e; cases e
  | some l =>
    rw [q] at e
    obtain ⟨p, xs, e1, h1, h2⟩ := seqL_rep s h q
    have e' := intsOf_eq e
    subst e'
    have e2 := ints_rep h2
    subst e2
    exact ⟨p, e1, h1⟩
def sumI (st : Sto) (a : IV) : Option IV := (intsAt st a).map fun ns => .int ns.sum
theorem v_sum : CallV K mg (rSum K) (pv1 sumI) := callV1 fun cm st H x a v Q s hx e k => by
  unfold sumI at e
  cases q : intsAt st a with
  | none => rw [q] at e; cases e
  | some ns =>
    rw [q] at e; cases e
    obtain ⟨p, rfl, h⟩ := intsAt_rep s hx q
    exact ⟨p, ns, rfl, h, k cm H _ (Ext.refl _ _) s (.int _)⟩
def boolsAt (st : Sto) (a : IV) : Option (List Bool) := (seqL st a).bind boolsOf
theorem boolsAt_rep {cm : Wd} {st : Sto} {H : Hp} {x : V} {a : IV} {ns : List Bool} (s : RelS K mg cm st H) (h : Rep K mg cm H x a) (e : boolsAt st a = some ns) : ∃ p, x = .ref p ∧ SqL K H p (ns.map V.bl) := by
  unfold boolsAt at e
  cases q : seqL st a with
  | none => rw [q] at e; cases e
  | some l =>
    rw [q] at e
    obtain ⟨p, xs, e1, h1, h2⟩ := seqL_rep s h q
    have e' := boolsOf_eq e
    subst e'
    have e2 := bools_rep h2
    subst e2
    exact ⟨p, e1, h1⟩
def allI (st : Sto) (a : IV) : Option IV := (boolsAt st a).map fun bs => .bl (bs.all id)
theorem v_all : CallV K mg (rAll K) (pv1 allI) := callV1 fun cm st H x a v Q s hx e k => by
  unfold allI at e
  cases q : boolsAt st a with
  | none => rw [q] at e; cases e
  | some ns =>
    rw [q] at e; cases e
    obtain ⟨p, rfl, h⟩ := boolsAt_rep s hx q
    exact ⟨p, ns, rfl, h, k cm H _ (Ext.refl _ _) s (.bl _)⟩
def sortI (l : List Int) : List Int := l.mergeSort (fun a b => decide (a ≤ b))
theorem sortI_perm (l : List Int) : (sortI l).Perm l := List.mergeSort_perm l _
theorem sortI_le (l : List Int) : (sortI l).Pairwise (· ≤ ·) := by
  have h := List.pairwise_mergeSort (le := fun a b : Int => decide (a ≤ b)) (by intro a b c h1 h2; simp at *; omega) (by intro a b; simp; omega) l
  exact h.imp (fun h => by simpa using h)
theorem perm_le_eq : ∀ {l m : List Int}, l.Perm m → l.Pairwise (· ≤ ·) → m.Pairwise (· ≤ ·) → l = m := fun {l m} p h1 h2 => p.eq_of_pairwise (fun a b _ _ h h' => by omega) h1 h2
theorem sortI_of {l m : List Int} (p : m.Perm l) (h : m.Pairwise (· ≤ ·)) : m = sortI l := perm_le_eq (p.trans (sortI_perm l).symm) h (sortI_le l)
def sortM (c : Bool) : List IV → M IV := fun l st => match l with
  | [a] => (match intsAt st a with
    | some ns => newL c ((sortI ns).map .int) st
    | none => none)
  | _ => none
theorem v_sorted (c : Bool) : CallV K mg (rSortedI K) (sortM c) := by
  intro W σ cm st H xs l o st' Q s hx e out
  cases hx with
  | nil => cases e
  | cons h1 h2 =>
    cases h2 with
    | cons _ _ => cases e
    | nil =>
      rename_i x a
      simp only [sortM] at e
      cases q : intsAt st a with
      | none => rw [q] at e; cases e
      | some ns =>
        rw [q] at e
        obtain ⟨p, rfl, h⟩ := intsAt_rep s h1 q
        refine ⟨p, ns, rfl, h, fun ms d hp hl hd => ?_⟩
        rw [sortI_of hp hl]
        exact newL_new s e hd (rep_ints _) out
def tupleI (st : Sto) : IV → Option IV
  | .tup l => some (.tup l)
  | a => (seqL st a).map .tup
theorem v_tuple : CallV K mg (fun xs H Q => ∃ p ys, xs = [V.ref p] ∧ ((SqL K H p ys ∧ ∀ l, H l = none → Q (.ref l) (upd H l (.tup ys))) ∨ (SqT K H p ys ∧ Q (.ref p) H))) (pv1 tupleI) := callV1 fun cm st H x a v Q s hx e k => by
  have gen : (seqL st a).map IV.tup = some v → ∃ p ys, [x] = [V.ref p] ∧ ((SqL K H p ys ∧ ∀ l, H l = none → Q (.ref l) (upd H l (.tup ys))) ∨ (SqT K H p ys ∧ Q (.ref p) H)) := fun e => by
    cases q : seqL st a with
    | none => rw [q] at e; cases e
    | some l =>
      rw [q] at e; cases e
      obtain ⟨p, ys, rfl, h1, h2⟩ := seqL_rep s hx q
      exact ⟨p, ys, rfl, .inl ⟨h1, fun d hd => k cm _ _ (Ext.new' hd) (s.new hd) (.tup (.inl ⟨.inl upd_same, s.notAv hd⟩) (h2.ext (Ext.new' hd)))⟩⟩
  cases a with
  | tup l =>
    cases e
    cases hx with
    | @tup p xs _ h1 h2 => exact ⟨p, xs, rfl, .inr ⟨h1.sq, k cm H _ (Ext.refl _ _) s (.tup h1 h2)⟩⟩
  | _ => exact gen e
end
end MK
namespace MK
open PySem L2
inductive Ty where
  | nn | bool | int | str | tup | lst
def Ty.nm : Ty → String
  | .nn => "NoneType" | .bool => "bool" | .int => "int" | .str => "str" | .tup => "tuple" | .lst => "list"
def Ty.isa : Ty → Ty → Bool
  | .nn, .nn => true | .bool, .bool => true | .bool, .int => true | .int, .int => true | .str, .str => true | .tup, .tup => true | .lst, .lst => true
  | _, _ => false
theorem Ty.kit : ∀ t T : Ty, kitB t.nm T.nm = some (t.isa T) := by
  intro t T
  cases t <;> cases T <;> decide +kernel
def tyI (st : Sto) : IV → Option Ty
  | .non => some .nn
  | .bl _ => some .bool
  | .int _ => some .int
  | .str _ => some .str
  | .tup _ => some .tup
  | .lst _ => some .lst
  | .scr _ => some .lst
  | .cell n => match st[n]? with | some (.lst _) => some .lst | _ => none
  | _ => none
def isiM (T : Ty) (v : IV) : M IV := fun st => (tyI st v).map fun t => (.val (.bl (t.isa T)), st)
section
variable {K : PySem.W.Frag} {mg : Str → Option Value} {cm : Wd} {st : Sto} {H : Hp} {x : V} {a : IV}
theorem ty_rep {t : Ty} (s : RelS K mg cm st H) (h : Rep K mg cm H x a) (e : tyI st a = some t) : TyX K H x (.type t.nm) := by
  cases h with
  | non => cases e; exact .base .non
  | bl => cases e; exact .base (.bl _)
  | int => cases e; exact .base (.int _)
  | str => cases e; exact .base (.str _)
  | tup h r =>
    cases e
    rcases h with ⟨h | ⟨o, h⟩, _⟩ | ⟨o, its, n, h1, h2, _⟩
    · exact .base (.tup h)
    · exact .fTuple h
    · exact .kTuple h1 h2
  | lst h r => cases e; exact .base (.lst h.1)
  | scr h r =>
    cases e
    rcases h with ⟨⟨o, h⟩, _⟩ | ⟨o, its, n, h1, h2, _⟩
    · exact .base (.frz h)
    · exact .kList h1 h2
  | @cell p n h =>
    simp only [tyI] at e
    cases q : st[n]? with
    | none => rw [q] at e; cases e
    | some c =>
      rw [q] at e
      cases c with
      | ins => cases e
      | lst l =>
        cases e
        obtain ⟨xs, h1, _⟩ := s.at' n p _ h q
        exact .base (.lst h1)
  | _ => cases e
end
def mIsi (T : Ty) (f : ME) : ME := fun ls => M.bind (f ls) (isiM T)
section
variable {X : Cx} {W : WX} {a b c e : Expr} {es : List Expr} {fa fb : ME} {g : MA} {p p2 p3 pos : Pos}
theorem e_isi (T : Ty) {nm : Str} (hm : X.mg "isinstance" = none) (hg : Gl X "isinstance") (hnm : nm = Str.ofString T.nm) (hg2 : Gl X nm) (hm2 : X.mg nm = none) (hb2 : bootBuiltins nm = some (.type T.nm)) (ha : PE' X W a fa)
    (hn : nm ≠ "__name__" := by decide) (hd : (nm == ("__debug__" : Str)) = false := by decide)
    (he : starEach [a, .Name nm p2] X.env = (false, eval a X.env) :: starEach [.Name nm p2] X.env := by rfl) (he2 : starEach [.Name nm p2] X.env = (false, eval (.Name nm p2) X.env) :: starEach [] X.env := by rfl)
    (hpl : (backTo pos (starEach [.Name nm p2] X.env)).any (·.1) = false := by rfl) : PE' X W (.Call (.Name "isinstance" p) [a, .Name nm p2] [] pos) (mIsi T fa) := by
  refine PE_imp (pe_callB call_isi hg hm PyProof.Rows.boot_isinstance (pa_cons ha (pa_cons (pe_bltn (v := .ty T.nm) hg2 hm2 hb2 rfl hn hd) pa_nil he2) he) (by decide) (by decide) he hpl) fun σ H Q h => rdE_mono (rd1 h) fun x H1 h1 => ?_
  obtain ⟨cm, st, v, r, st', s, hx, e, o⟩ := h1
  unfold isiM at e
  cases q : tyI st v with
  | none => rw [q] at e; cases e
  | some t =>
    rw [q] at e; cases e
    exact ⟨x, .ty T.nm, .type t.nm, .type T.nm, t.isa T, rfl, .ty _, ty_rep s hx q, kit_ty (Ty.kit t T), o cm H1 (Ext.refl _ _) s _ (.bl _)⟩
def MtV (K : PySem.W.Frag) (mg : Str → Option Value) (T : String) (r : V → List V → Hp → VK → Prop) (g : IV → List IV → M IV) : Prop :=
  ∀ (W : WX) (σ : L2.St) (cm : Wd) (st : Sto) (H : Hp) (x : V) (a : IV) (xs : List V) (l : List IV) (o : OX IV) (st' : Sto) (Q : VK), RelS K mg cm st H → Rep K mg cm H x a → RepL K mg cm H xs l → g a l st = some (o, st') → Out K mg W σ cm H (GE K mg Q) o st' → r x xs H Q
def recvM (v : IV) : M IV := fun st => match lstOf st v with
  | some _ => some (.val v, st)
  | none => none
def mMt (g : IV → List IV → M IV) (f : ME) (a : MA) : ME := fun ls => M.bind (f ls) fun v => M.bind (recvM v) fun v => M.bind (a ls) fun l => g v l
theorem recvM_inv {v : IV} {st st' : Sto} {r : OX IV} (h : recvM v st = some (r, st')) : r = .val v ∧ st' = st ∧ ∃ l, lstOf st v = some l := by
  unfold recvM at h
  cases q : lstOf st v with
  | none => rw [q] at h; cases h
  | some l => rw [q] at h; cases h; exact ⟨rfl, rfl, l, rfl⟩
theorem rd_mt {K : PySem.W.Frag} {mg : Str → Option Value} {σ : L2.St} {H : Hp} {Q : VK} {r : V → List V → Hp → VK → Prop} {g : IV → List IV → M IV} {f : ME} {ga : MA} (hv : MtV K mg "list" r g) (h : rdE K mg W (mMt g f ga) σ H Q) : tBM K "list" r (rdE K mg W f) (rdA K mg W ga) σ H Q := by
  obtain ⟨cm, ls, st, r', st', R, e, o⟩ := h
  rcases M.bind_inv e with ⟨v, st1, e1, e2⟩ | ⟨c, f, v, e1, rfl⟩
  · refine ⟨cm, ls, st, _, st1, R, e1, fun cm1 H1 x1 s1 y hy => ?_⟩
    rcases M.bind_inv e2 with ⟨v', st2, e3, e4⟩ | ⟨c, f, v, e3, rfl⟩
    · obtain ⟨q1, rfl, l, q2⟩ := recvM_inv e3
      cases q1
      obtain ⟨p, xs, rfl, h1, h2⟩ := lstOf_rep s1 hy q2
      refine ⟨.inl ⟨rfl, xs, SqL.of h1⟩, ?_⟩
      rcases M.bind_inv e4 with ⟨as, st3, e5, e6⟩ | ⟨c, f, v, e5, rfl⟩
      · refine ⟨cm1, ls, _, _, st3, R.ext x1 s1, e5, fun cm2 H2 x2 s2 ys hys => ?_⟩
        refine hv W σ cm2 st3 H2 _ v ys as r' st' Q s2 (hy.ext x2) hys e6 ?_
        cases r' with
        | val a => exact fun cm3 H3 x3 s3 => o cm3 H3 ((x1.trans x2).trans x3) s3
        | exc c f v => exact fun cm3 H3 x3 s3 => o cm3 H3 ((x1.trans x2).trans x3) s3
      · exact ⟨cm1, ls, _, _, st', R.ext x1 s1, e5, fun cm2 H2 x2 s2 => o cm2 H2 (x1.trans x2) s2⟩
    · obtain ⟨q1, _⟩ := recvM_inv e3
      cases q1
  · exact ⟨cm, ls, st, _, st', R, e1, o⟩
def appM (a : IV) (l : List IV) : M IV := fun st => match a, l with
  | .cell n, [v] => (match st[n]? with
    | some (.lst m) => if v.pure = true ∧ m.length < 16777216 then some (.val .non, st.set n (.lst (m ++ [v]))) else none
    | _ => none)
  | _, _ => none
theorem pureL_app : ∀ {l m : List IV}, pureL l = true → pureL m = true → pureL (l ++ m) = true
  | [], _, _, h => h
  | a :: l, m, h, h' => by
    simp only [pureL, Bool.and_eq_true] at h
    simp only [List.cons_append, pureL, Bool.and_eq_true]
    exact ⟨h.1, pureL_app h.2 h'⟩
theorem pureL_set : ∀ {l : List IV} {v : IV} (n : Nat), pureL l = true → v.pure = true → pureL (l.set n v) = true
  | [], _, _, h, _ => h
  | a :: l, v, 0, h, h' => by
    simp only [pureL, Bool.and_eq_true] at h
    simp only [List.set_cons_zero, pureL, Bool.and_eq_true]
    exact ⟨h', h.2⟩
  | a :: l, v, n + 1, h, h' => by
    simp only [pureL, Bool.and_eq_true] at h
    simp only [List.set_cons_succ, pureL, Bool.and_eq_true]
    exact ⟨h.1, pureL_set n h.2 h'⟩
theorem cell_put {K : PySem.W.Frag} {mg : Str → Option Value} {σ : L2.St} {H : Hp} {cm : Wd} {st : Sto} {n : Nat} {p : Addr} {ys : List V} {m : List IV} (s : RelS K mg cm st H) (hn : cm.cm[n]? = some p) (r : RepL K mg cm H ys m) (q : pureL m = true) :
    Ext cm H cm (upd H p (.lst ys)) ∧ RelS K mg cm (st.set n (.lst m)) (upd H p (.lst ys)) :=
  have E : Ext cm H cm (upd H p (.lst ys)) := Ext.set (List.mem_of_getElem? hn)
  ⟨E, s.set hn ⟨ys, upd_same, r.ext E, q⟩⟩
theorem cell_at {K : PySem.W.Frag} {mg : Str → Option Value} {H : Hp} {cm : Wd} {st : Sto} {n : Nat} {x : V} {m : List IV} (s : RelS K mg cm st H) (h : Rep K mg cm H x (.cell n)) (q : st[n]? = some (.lst m)) :
    ∃ p xs, x = .ref p ∧ cm.cm[n]? = some p ∧ H p = some (.lst xs) ∧ RepL K mg cm H xs m ∧ pureL m = true := by
  cases h with
  | @cell p n h =>
    obtain ⟨xs, h1, h2, h3⟩ := s.at' n p _ h q
    exact ⟨p, xs, rfl, h, h1, h2, h3⟩
theorem rep1 {K : PySem.W.Frag} {mg : Str → Option Value} {H : Hp} {cm : Wd} {xs : List V} {v : IV} (h : RepL K mg cm H xs [v]) : ∃ x, xs = [x] ∧ Rep K mg cm H x v := by
  cases h with
  | cons h r => cases r; exact ⟨_, rfl, h⟩
theorem v_app {K : PySem.W.Frag} {mg : Str → Option Value} : MtV K mg "list" rAppend appM := by
  intro W σ cm st H x a xs l o st' Q s hx hl e out
  unfold appM at e
  split at e
  · rename_i n v
    split at e
    · rename_i m q
      split at e
      · rename_i hc
        cases e
        obtain ⟨p, ys, rfl, h1, h2, h3, h4⟩ := cell_at s hx q
        obtain ⟨y, rfl, hy⟩ := rep1 hl
        obtain ⟨E, s'⟩ := cell_put (σ := σ) s h1 (h3.app (.cons hy .nil)) (pureL_app h4 (by simp [pureL, hc.1]))
        exact ⟨p, ys, y, rfl, rfl, h2, by rw [h3.length, sizeLine_eq]; exact hc.2, out cm _ E s' _ .non⟩
      · cases e
    · cases e
  · cases e
theorem e_append {apos cpos : Pos} (ho : PE' X W a fa) (hl : PA' X W (e :: es) g)
    (hbase : attributeBase a "append" X.env (eval a X.env) = eval a X.env := by rfl)
    (hfew : ((backTo cpos (starEach (e :: es) X.env)).all (fun x => !x.1) && (backToKw cpos (keywordEach [] X.env)).all (fun x => x.1.isSome)
      && decide ((e :: es).length + ([] : List Keyword).length + (if ([] : List Keyword).isEmpty then 0 else 1) < 30)) = true := by rfl)
    (hline : (apos.endLine == cpos.line) = true := by rfl) (hs : starEach (e :: es) X.env = (false, eval e X.env) :: starEach es X.env := by rfl) (hplain : (backTo cpos (starEach es X.env)).any (·.1) = false := by rfl) :
    PE' X W (.Call (.Attribute a "append" apos) (e :: es) [] cpos) (mMt appM fa g) :=
  PE_imp (pe_bm PySem.F.plainAttrs_list PySem.F.slot_list_append PySem.F.type_list_append mt_append ho hl hbase hfew hline hs hplain) fun _ _ _ h => rd_mt v_app h
def FldOk (K : PySem.W.Frag) (mg : Str → Option Value) (c f : Str) : Prop := ∀ C, mg c = some (.ref C) → Cls K C ∧ NoAttr K C f
def fldM (c f : Str) (v : IV) : M IV := fun st => match v with
  | .obj c' fs => if c' = c then (fs.lookup f).map fun v => (.val v, st) else none
  | .cell n => (match st[n]? with
    | some (.ins c' fs) => if c' = c then (fs.lookup f).map fun v => (.val v, st) else none
    | _ => none)
  | _ => none
def mFld (c f : Str) (m : ME) : ME := fun ls => M.bind (m ls) (fldM c f)
theorem e_fld (c : Str) {f : Str} (ho : PE' X W a fa) (hf : FldOk X.K X.mg c f) (hb : attributeBase a f X.env (eval a X.env) = eval a X.env := by rfl) : PE' X W (.Attribute a f pos) (mFld c f fa) := by
  refine PE_imp (pe_fld ho hb) fun σ H Q h => rdE_mono (rd1 h) fun x H1 h1 => ?_
  obtain ⟨cm, st, v, r, st', s, hx, e, o⟩ := h1
  unfold fldM at e
  split at e
  · rename_i c' fs
    split at e
    · rename_i hc
      subst hc
      cases q : fs.lookup f with
      | none => rw [q] at e; cases e
      | some w =>
        rw [q] at e; cases e
        cases hx with
        | @obj p C dx _ fs' _ hm h1 h2 h3 =>
          obtain ⟨y, h4, h5⟩ := h3.get q
          exact ⟨p, C, dx, fs', y, rfl, h1, (hf C hm).1, (hf C hm).2, h4, o cm H1 (Ext.refl _ _) s _ h5⟩
    · cases e
  · rename_i n
    split at e
    · rename_i c' fs q0
      split at e
      · rename_i hc
        subst hc
        cases q : fs.lookup f with
        | none => rw [q] at e; cases e
        | some w =>
          rw [q] at e; cases e
          cases hx with
          | @cell p _ hn =>
            obtain ⟨C, dx, fs', hm, h1, h3, _⟩ := s.at' n p _ hn q0
            obtain ⟨y, h4, h5⟩ := h3.get q
            exact ⟨p, C, dx, fs', y, rfl, h1, (hf C hm).1, (hf C hm).2, h4, o cm H1 (Ext.refl _ _) s _ h5⟩
      · cases e
    · cases e
  · cases e
end
end MK
namespace MK
open PySem PySem.Spec PyProof.Rows L2
abbrev XW (E : XK) : WX := fun c d _ H => E c d H
def spM (K : PySem.W.Frag) (mg : Str → Option Value) (n : Nat) (g : MF) : Sp := fun vs H Q E => vs.length = n ∧ ∃ cm st l r st', RelS K mg cm st H ∧ RepL K mg cm H vs l ∧ g l st = some (r, st') ∧ Out K mg (XW E) [] cm H (GE K mg Q) r st'
structure DefOk (P : Program) (w : World) (K : PySem.W.Frag) (mg : Str → Option Value) (base : Heap) (k : Nat) (x : Str) (ps : List Str) (g : MF) : Prop where
  ex : ∃ f fd, mg x = some (.ref f) ∧ PySem.W.keepIn K (.ref f) = true ∧ Binds K fd ps [] ∧ FnOk P w K mg base (L2.CX P w) k f fd ps (spM K mg ps.length g)
theorem DefOk.mono {P : Program} {w : World} {K : PySem.W.Frag} {mg : Str → Option Value} {base : Heap} {j k : Nat} {x : Str} {ps : List Str} {g : MF} (h : DefOk P w K mg base j x ps g) (hk : j ≤ k) : DefOk P w K mg base k x ps g := by
  obtain ⟨f, fd, h1, h2, h3, h4⟩ := h.ex
  exact ⟨⟨f, fd, h1, h2, h3, h4.mono hk⟩⟩
theorem spM_imp {K : PySem.W.Frag} {mg : Str → Option Value} {n : Nat} {g g' : MF} (h : ∀ l st r, g' l st = some r → g l st = some r) : ∀ vs H Q E, spM K mg n g' vs H Q E → spM K mg n g vs H Q E := by
  intro vs H Q E ⟨hl, cm, st, l, r, st', s, hr, e, o⟩
  exact ⟨hl, cm, st, l, r, st', s, hr, h _ _ _ e, o⟩
theorem DefOk.imp {P : Program} {w : World} {K : PySem.W.Frag} {mg : Str → Option Value} {base : Heap} {k : Nat} {x : Str} {ps : List Str} {g g' : MF} (h : DefOk P w K mg base k x ps g) (i : ∀ l st r, g' l st = some r → g l st = some r) : DefOk P w K mg base k x ps g' := by
  obtain ⟨f, fd, h1, h2, h3, h4⟩ := h.ex
  exact ⟨⟨f, fd, h1, h2, h3, h4.imp (spM_imp i)⟩⟩
theorem out_call {K : PySem.W.Frag} {mg : Str → Option Value} {W : WX} {σ : L2.St} {cm : Wd} {H : Hp} {Q : VK} {r : OX IV} {st' : Sto} (o : Out K mg W σ cm H (GE K mg Q) r st') : Out K mg (XW (WE W σ)) [] cm H (GE K mg Q) r st' := by
  cases r with
  | val a => exact o
  | exc c f v => exact o
section
variable {X : Cx} {W : WX} {e : Expr} {es : List Expr} {ga : MA} {k : Nat} {x : Str} {ps : List Str} {g : MF} {p pos : Pos}
def mCallD (n : Nat) (g : List IV → M IV) (a : MA) : ME := fun ls => M.bind (a ls) fun l => if l.length = n then g l else M.stuck
theorem e_call (F : DefOk X.prog X.w X.K X.mg X.base k x ps g) (hr : Room k X.A) (hg : Gl X x) (tk : Takes X W) (ha : PA' X W (e :: es) ga) (hdb : (x == ("__debug__" : Str)) = false := by decide)
    (he : starEach (e :: es) X.env = (false, eval e X.env) :: starEach es X.env := by rfl) (hpl : (backTo pos (starEach es X.env)).any (·.1) = false := by rfl) : PE' X W (.Call (.Name x p) (e :: es) [] pos) (mCallD ps.length g ga) := by
  obtain ⟨f, fd, h1, h2, h3, h4⟩ := F.ex
  refine PE_imp (pe_callS h4 hr hg h1 h2 h3 (fun σ => passAt tk σ) ha hdb he hpl) fun σ H Q h => rdA_mono (rdA1 h) fun xs H1 hh => ?_
  obtain ⟨cm, st, l, r, st', s, hx, e, o⟩ := hh
  split at e
  · exact ⟨by rw [hx.length]; assumption, cm, st, l, r, st', s, hx, e, out_call o⟩
  · cases e
end
def closeM (keep : Bool) (k : Nat) (v : IV) (st : Sto) : Option (OX IV × Sto) :=
  if keep = true ∨ st.length = k then some (.val v, st) else match v with
    | .cell n => if n < k then some (.val (.cell n), st.take k) else (match st[n]? with
      | some (.lst l) => some (.val (.lst l), st.take k)
      | some (.ins c fs) => some (.val (.obj c fs), st.take k)
      | none => none)
    | v => if v.pure = true then some (.val v, st.take k) else none
def finM (keep : Bool) (n : Nat) (body : MS) : MF := fun l st => match body (l.map some ++ List.replicate (n - l.length) none) st with
  | some (.val (.nx _), st') => closeM keep st.length .non st'
  | some (.val (.rt v), st') => closeM keep st.length v st'
  | some (.val (.ex _ c f v), st') => if st'.length = st.length then some (.exc c f v, st') else if v.pure = true then some (.exc c f v, st'.take st.length) else none
  | _ => none
section
variable {K : PySem.W.Frag} {mg : Str → Option Value} {σ : L2.St} {H H1 : Hp} {W : WX} {cm cm1 : Wd} {st st1 st' : Sto} {Q : VK} {r : OX IV} {v : IV} {x : V}
theorem cut_of (E : Ext cm H cm1 H1) : Cut cm1 H1 cm H1 := ⟨fun a _ _ n m => n (E.keep a m), fun _ _ h _ => h⟩
theorem relS_cut (s : RelS K mg cm st H) (E : Ext cm H cm1 H1) (s1 : RelS K mg cm1 st1 H1) : RelS K mg cm (st1.take st.length) H1 ∧ Ext cm H cm H1 := by
  have hlen : cm.cm.length ≤ cm1.cm.length := by
    obtain ⟨l, e⟩ := E.pre
    rw [e, List.length_append]; omega
  refine ⟨⟨?_, s.nd, fun n a c h1 h2 => ?_, fun a h => s1.avs a (E.keep a h)⟩, Ext.mk' fun a o h n => E.fr a o h n⟩
  · rw [List.length_take, ← s1.len, ← s.len]; omega
  · have hn : n < cm.cm.length := (List.getElem?_eq_some_iff.mp h1).1
    rw [List.getElem?_take_of_lt (by rw [← s.len]; exact hn)] at h2
    have q := s1.at' n a c (E.at h1) h2
    cases c with
    | lst l => obtain ⟨xs, q1, q2, q3⟩ := q; exact ⟨xs, q1, q2.cut (cut_of E) q3, q3⟩
    | ins c fs => obtain ⟨C, dx, fs', q0, q1, q2, q3⟩ := q; exact ⟨C, dx, fs', q0, q1, q2.cut (cut_of E) q3, q3⟩
theorem new_cell_free (s : RelS K mg cm st H) (E : Ext cm H cm1 H1) (s1 : RelS K mg cm1 st1 H1) {n : Nat} {p : Addr} (h : cm1.cm[n]? = some p) (hn : ¬ n < st.length) : p ∉ cm.av := fun m => by
  obtain ⟨o, q⟩ := s.avs p m
  by_cases hc : p ∈ cm.cm
  · obtain ⟨i, hi⟩ := List.getElem?_of_mem hc
    have hi' := (List.getElem?_eq_some_iff.mp hi).1
    have h2 := E.at hi
    obtain ⟨i1, e1⟩ := List.getElem?_eq_some_iff.mp h
    obtain ⟨i2, e2⟩ := List.getElem?_eq_some_iff.mp h2
    have := (List.getElem_inj s1.nd).mp (e1.trans e2.symm)
    rw [s.len] at hi'
    omega
  · exact E.new p o q hc (List.mem_of_getElem? h)
theorem close_ok {keep : Bool} (s : RelS K mg cm st H) (e : closeM keep st.length v st1 = some (r, st')) (o : Out K mg W σ cm H (GE K mg Q) r st') (E : Ext cm H cm1 H1) (s1 : RelS K mg cm1 st1 H1) (hx : Rep K mg cm1 H1 x v) : Q x H1 := by
  unfold closeM at e
  split at e
  · cases e; exact o cm1 H1 E s1 x hx
  · obtain ⟨s2, E2⟩ := relS_cut s E s1
    have hp : ∀ {v : IV}, Rep K mg cm1 H1 x v → (if v.pure = true then some (OX.val v, st1.take st.length) else none) = some (r, st') → Q x H1 := fun {v} hx e => by
      split at e
      · cases e
        exact o cm H1 E2 s2 x (hx.cut (cut_of E) (by assumption))
      · cases e
    cases v with
    | cell n =>
      simp only at e
      cases hx with
      | @cell p _ h =>
        split at e
        · rename_i hn
          cases e
          refine o cm H1 E2 s2 _ (.cell ?_)
          obtain ⟨l, q⟩ := E.pre
          rw [q, List.getElem?_append_left (by rw [s.len]; exact hn)] at h
          exact h
        · rename_i hn
          have free := new_cell_free s E s1 h hn
          split at e
          · rename_i l q
            cases e
            obtain ⟨xs, q1, q2, q3⟩ := s1.at' n p _ h q
            exact o cm H1 E2 s2 _ (.lst ⟨q1, free⟩ (q2.cut (cut_of E) q3))
          · rename_i c fs q
            cases e
            obtain ⟨C, dx, fs', q0, q1, q2, q3⟩ := s1.at' n p _ h q
            exact o cm H1 E2 s2 _ (.obj q0 q1 free (q2.cut (cut_of E) q3))
          · cases e
    | _ => exact hp hx e
end
section
variable {P : Program} {w : World} {K : PySem.W.Frag} {mg : Str → Option Value} {base : Heap}
theorem start_rel {cm : Wd} {st : Sto} {H : Hp} {vs : List V} {l : List IV} {N : List Str} (s : RelS K mg cm st H) (h : RepL K mg cm H vs l) : Rel K mg cm (l.map some ++ List.replicate (N.length - l.length) none) st (L2.start N vs) H := by
  refine ⟨s, ?_, fun i v e => ?_⟩
  · unfold L2.start
    simp [h.length]
  · unfold L2.start
    by_cases hi : i < l.length
    · rw [List.getElem?_append_left (by simpa using hi), List.getElem?_map] at e
      cases q : l[i]? with
      | none => rw [q] at e; cases e
      | some w =>
        rw [q] at e; cases e
        obtain ⟨x, h1, h2⟩ := h.get q
        refine ⟨x, ?_, h2⟩
        rw [List.getElem?_append_left (by rw [List.length_map, h.length]; exact hi), List.getElem?_map, h1]; rfl
    · rw [List.getElem?_append_right (by simpa using hi), List.getElem?_replicate] at e
      split at e <;> cases e
theorem body_end {keep : Bool} {N : List Str} {n : Nat} {body : MS} {vs : List V} {H : Hp} {Q : VK} {E : XK} (h : spM K mg n (finM keep N.length body) vs H Q E) : rdS K mg (XW E) body { nx := fun _ H' => Q .non H', rt := Q } (L2.start N vs) H := by
  obtain ⟨_, cm, st, l, r, st', s, hl, e, o⟩ := h
  unfold finM at e
  cases q : body (l.map some ++ List.replicate (N.length - l.length) none) st with
  | none => rw [q] at e; cases e
  | some p =>
    obtain ⟨fl, st1⟩ := p
    rw [q] at e
    cases fl with
    | exc c f v => cases e
    | val fl =>
      refine ⟨cm, _, st, fl, st1, start_rel s hl, q, ?_⟩
      intro cm1 H1 E1 s1
      cases fl with
      | nx ls => exact fun σ _ => close_ok s e o E1 s1 .non
      | rt v => exact fun x hx => close_ok s e o E1 s1 hx
      | bk ls => cases e
      | ct ls => cases e
      | ex ls c f v =>
        intro σ _ C d y hm hxf hd hav hy
        simp only at e
        split at e
        · cases e
          exact o cm1 H1 E1 s1 C d y hm hxf hd hav hy
        · split at e
          · cases e
            obtain ⟨s2, E2⟩ := relS_cut s E1 s1
            exact o cm H1 E2 s2 C d y hm hxf hd (fun m => hav (E1.keep d m)) (hy.cut (cut_of E1) (by assumption))
          · cases e
theorem tk_def {N : List Str} {qual : Str} {sc : Scope} {f : Addr} {cdv : Value} {A : Around} {outer : List Env} {s : Shared} {H : Hp} {E : XK} : Takes (cxOf (L2.CX P w) P w K mg base N qual sc f cdv A outer s H E) (XW E) := takes_of rfl rfl rfl rfl
theorem po_def {N : List Str} {qual : Str} {sc : Scope} {f : Addr} {cdv : Value} {A : Around} {outer : List Env} {s : Shared} {H : Hp} {E : XK} :
    PassesOwn (model P w) (cxOf (L2.CX P w) P w K mg base N qual sc f cdv A outer s H E).A (cxOf (L2.CX P w) P w K mg base N qual sc f cdv A outer s H E).env (cxOf (L2.CX P w) P w K mg base N qual sc f cdv A outer s H E).xe := passes_of (X := cxOf (L2.CX P w) P w K mg base N qual sc f cdv A outer s H E) rfl
end
end MK
namespace MK
open PySem L2
def liftS {α : Type} (m : Loc → M α) (k : α → Loc → M Fl) : MS := fun ls st => match m ls st with
  | some (.val v, st') => k v ls st'
  | some (.exc c f v, st') => some (.val (.ex ls c f v), st')
  | none => none
def mSeq (f g : MS) : MS := fun ls => M.bind (f ls) fun fl => match fl with
  | .nx ls' => g ls'
  | fl => M.ret fl
def mPass : MS := fun ls => M.ret (.nx ls)
def mExpr (m : ME) : MS := liftS m fun _ ls => M.ret (.nx ls)
def mRet (m : ME) : MS := liftS m fun v _ => M.ret (.rt v)
def mIfS (c : MT) (t f : MS) : MS := liftS c fun b ls => if b = true then t ls else f ls
def mSet (i : Nat) (m : ME) : MS := liftS m fun v ls => M.ret (.nx (ls.set i (some v)))
abbrev PS' (X : Cx) (W : WX) (s : Stmt) (m : MS) : Prop := PS X s (rdS X.K X.mg W m)
abbrev PSs' (X : Cx) (W : WX) (s : List Stmt) (m : MS) : Prop := PSs X s (rdS X.K X.mg W m)
section
variable {K : PySem.W.Frag} {mg : Str → Option Value} {σ : L2.St} {H : Hp} {W : WX} {D : Ends} {α : Type}
theorem rd_lift {m : Loc → M α} {k : α → Loc → M Fl} (h : rdS K mg W (liftS m k) D σ H) :
    ∃ cm ls st r st', Rel K mg cm ls st σ H ∧ m ls st = some (r, st') ∧ Out K mg W σ cm H (fun cm' H' a => ∃ fl st2, k a ls st' = some (.val fl, st2) ∧ OutS K mg W D cm' H' fl st2) r st' := by
  obtain ⟨cm, ls, st, fl, st', R, e, o⟩ := h
  unfold liftS at e
  cases q : m ls st with
  | none => rw [q] at e; cases e
  | some p =>
    obtain ⟨r1, st1⟩ := p
    rw [q] at e
    refine ⟨cm, ls, st, r1, st1, R, q, ?_⟩
    cases r1 with
    | val a => exact fun cm1 H1 x1 s1 => ⟨fl, st', e, fun cm2 H2 x2 s2 => o cm2 H2 (x1.trans x2) s2⟩
    | exc c f v =>
      cases e
      exact fun cm1 H1 x1 s1 => o cm1 H1 x1 s1 σ (R.loc.ext x1)
theorem rd_liftE {m : ME} {k : IV → Loc → M Fl} (h : rdS K mg W (liftS m k) D σ H) :
    rdE K mg W m σ H fun x H1 => ∃ cm ls st v fl st2, Rel K mg cm ls st σ H1 ∧ Rep K mg cm H1 x v ∧ k v ls st = some (.val fl, st2) ∧ OutS K mg W D cm H1 fl st2 := by
  obtain ⟨cm, ls, st, r, st', R, e, o⟩ := rd_lift h
  refine ⟨cm, ls, st, r, st', R, e, ?_⟩
  cases r with
  | val a =>
    intro cm1 H1 x1 s1 y hy
    obtain ⟨fl, st2, e2, o2⟩ := o cm1 H1 x1 s1
    exact ⟨cm1, ls, st', a, fl, st2, R.ext x1 s1, hy, e2, o2⟩
  | exc c f v => exact o
theorem rd_liftT {m : MT} {k : Bool → Loc → M Fl} (h : rdS K mg W (liftS m k) D σ H) :
    rdT K mg W m σ H fun b H1 => ∃ cm ls st fl st2, Rel K mg cm ls st σ H1 ∧ k b ls st = some (.val fl, st2) ∧ OutS K mg W D cm H1 fl st2 := by
  obtain ⟨cm, ls, st, r, st', R, e, o⟩ := rd_lift h
  refine ⟨cm, ls, st, r, st', R, e, ?_⟩
  cases r with
  | val a =>
    intro cm1 H1 x1 s1
    obtain ⟨fl, st2, e2, o2⟩ := o cm1 H1 x1 s1
    exact ⟨cm1, ls, st', fl, st2, R.ext x1 s1, e2, o2⟩
  | exc c f v => exact o
theorem RelC.set {cm : Wd} {ls : Loc} {x : V} {v : IV} (h : RelC K mg cm ls σ H) (i : Nat) (hx : Rep K mg cm H x v) : RelC K mg cm (ls.set i (some v)) (σ.set i (some x)) H := ⟨by simp [h.len], fun j w e => by
  by_cases hi : i = j
  · subst hi
    by_cases hl : i < ls.length
    · rw [List.getElem?_set_self hl] at e
      cases e
      exact ⟨x, by rw [List.getElem?_set_self (by rw [← h.len]; exact hl)], hx⟩
    · rw [List.getElem?_eq_none (by simpa using hl)] at e; cases e
  · rw [List.getElem?_set_ne hi] at e ⊢
    exact h.at' j w e⟩
end
section
variable {X : Cx} {W : WX} {a b c e : Expr} {es : List Expr} {fa fb : ME} {tc : MT} {g : MA} {p p2 p3 pos : Pos} {s : Stmt} {ss : List Stmt} {m n : MS}
theorem ss_nil : PSs' X W [] mPass := PSs_imp pss_nil fun D σ H h => by
  obtain ⟨cm, ls, st, fl, st', R, e, o⟩ := h
  cases e
  exact o cm H (Ext.refl _ _) R.sto σ R.loc
theorem rd_seq {K : PySem.W.Frag} {mg : Str → Option Value} {σ : L2.St} {H : Hp} {D : Ends} (h : rdS K mg W (mSeq m n) D σ H) : tSeq (rdS K mg W m) (rdS K mg W n) D σ H := by
  obtain ⟨cm, ls, st, r, st', R, e, o⟩ := h
  rcases M.bind_inv e with ⟨fl, st1, e1, e2⟩ | ⟨c, f, v, e1, q⟩
  · refine ⟨cm, ls, st, _, st1, R, e1, fun cm1 H1 x1 s1 => ?_⟩
    cases fl with
    | nx ls' => exact fun σ1 R1 => ⟨cm1, ls', st1, r, st', ⟨s1, R1⟩, e2, fun cm2 H2 x2 s2 => o cm2 H2 (x1.trans x2) s2⟩
    | rt v => cases e2; exact o cm1 H1 x1 s1
    | bk v => cases e2; exact o cm1 H1 x1 s1
    | ct v => cases e2; exact o cm1 H1 x1 s1
    | ex ls c f v => cases e2; exact o cm1 H1 x1 s1
  · cases q
theorem ss_cons (h1 : PS' X W s m) (h2 : PSs' X W ss n) : PSs' X W (s :: ss) (mSeq m n) := PSs_imp (pss_cons h1 h2) fun _ _ _ h => rd_seq h
theorem ss_one (h : PS' X W s m) : PSs' X W [s] m := pss_one h
theorem s_expr (he : PE' X W e fa) (hs : swapsWith e none pos.line X.env = pure false := by rfl) : PS' X W (.Expr e pos) (mExpr fa) := PS_imp (ps_expr he hs) fun D σ H h => rdE_mono (rd_liftE h) fun x H1 h1 => by
  obtain ⟨cm, ls, st, v, fl, st2, R, hx, e, o⟩ := h1
  cases e
  exact o cm H1 (Ext.refl _ _) R.sto σ R.loc
theorem s_ret (he : PE' X W e fa) : PS' X W (.Return (some e) pos) (mRet fa) := PS_imp (ps_ret he) fun D σ H h => rdE_mono (rd_liftE h) fun x H1 h1 => by
  obtain ⟨cm, ls, st, v, fl, st2, R, hx, e, o⟩ := h1
  cases e
  exact o cm H1 (Ext.refl _ _) R.sto x hx
theorem s_if {sa sb : List Stmt} {c : Expr} (hc : PT' X W c tc) (ha : PSs' X W sa m) (hb : PSs' X W sb n) : PS' X W (.If c sa sb pos) (mIfS tc m n) := PS_imp (ps_if hc ha hb) fun D σ H h => rdT_mono (rd_liftT h) fun b H1 h1 => by
  obtain ⟨cm, ls, st, fl, st2, R, e, o⟩ := h1
  cases b with
  | true => exact ⟨cm, ls, st, fl, st2, R, e, o⟩
  | false => exact ⟨cm, ls, st, fl, st2, R, e, o⟩
abbrev MG := Loc → IV → Option Loc
def gSet (i : Nat) : MG := fun ls v => some (ls.set i (some v))
def rdG (K : PySem.W.Frag) (mg : Str → Option Value) (t : MG) : TG := fun x σ H Q => ∃ cm ls v ls', RelC K mg cm ls σ H ∧ Rep K mg cm H x v ∧ t ls v = some ls' ∧ ∀ σ', RelC K mg cm ls' σ' H → Q σ' H
abbrev PG' (X : Cx) (e : Expr) (t : MG) : Prop := PG X e (rdG X.K X.mg t)
theorem PG_imp {X : Cx} {e : Expr} {t t' : TG} (h : PG X e t) (i : ∀ x σ H Q, t' x σ H Q → t x σ H Q) : PG X e t' := ⟨fun pins s σ H v u Q I r q => h.run pins s σ H v u Q I r (i v σ H Q q)⟩
theorem PGs_imp {X : Cx} {e : List Expr} {t t' : TGs} (h : PGs X e t) (i : ∀ x σ H Q, t' x σ H Q → t x σ H Q) : PGs X e t' := ⟨fun pins s σ H v u Q I r q => h.run pins s σ H v u Q I r (i v σ H Q q)⟩
theorem g_name (i : Nat) {x : Str} (hN : X.N.Nodup) (hi : X.N[i]? = some x := by rfl) (hx : L2.Loc X.env.scope x := by first | exact Or.inl rfl | exact Or.inr rfl) (hf : X.fn x = true ∨ X.env.scope.names.lookup x = some .local := by first | exact .inl rfl | exact .inr rfl) : PG' X (.Name x pos) (gSet i) :=
  PG_imp (pg_name hN hi hx hf) fun x σ H Q h => by
    obtain ⟨cm, ls, v, ls', R, hx, e, k⟩ := h
    cases e
    exact k _ (R.set i hx)
abbrev MGs := Loc → List IV → Option Loc
def gsNil : MGs := fun ls l => match l with | [] => some ls | _ => none
def gsCons (t : MG) (u : MGs) : MGs := fun ls l => match l with
  | v :: r => (t ls v).bind fun ls' => u ls' r
  | [] => none
def gTupI (n : Nat) (u : MGs) : MG := fun ls v => match v with
  | .tup l => if l.length = n then u ls l else none
  | _ => none
def rdGs (K : PySem.W.Frag) (mg : Str → Option Value) (t : MGs) : TGs := fun xs σ H Q => ∃ cm ls l ls', RelC K mg cm ls σ H ∧ RepL K mg cm H xs l ∧ t ls l = some ls' ∧ ∀ σ', RelC K mg cm ls' σ' H → Q σ' H
abbrev PGs' (X : Cx) (e : List Expr) (t : MGs) : Prop := PGs X e (rdGs X.K X.mg t)
theorem gs_nil : PGs' X [] gsNil := PGs_imp pgs_nil fun xs σ H Q h => by
  obtain ⟨cm, ls, l, ls', R, hx, e, k⟩ := h
  cases hx with
  | nil => cases e; exact ⟨rfl, k σ R⟩
  | cons => cases e
theorem gs_cons {t : MG} {u : MGs} (h1 : PG' X e t) (h2 : PGs' X es u) (hs : (assignEach (e :: es) X.env).map (·.2) = assign e X.env :: (assignEach es X.env).map (·.2) := by rfl) : PGs' X (e :: es) (gsCons t u) := PGs_imp (pgs_cons h1 h2 hs) fun xs σ H Q h => by
  obtain ⟨cm, ls, l, ls', R, hx, e, k⟩ := h
  cases hx with
  | nil => cases e
  | @cons x xs v l h r =>
    simp only [gsCons] at e
    cases q : t ls v with
    | none => rw [q] at e; cases e
    | some ls1 =>
      rw [q] at e
      exact ⟨x, xs, rfl, cm, ls, v, ls1, R, h, q, fun σ' R' => ⟨cm, ls1, l, ls', R', r, e, k⟩⟩
theorem g_tup {n : Nat} {t : MGs} {kk : Nat} (hc : X.calm = true) (h : PGs' X es t) (hn : (assignEach es X.env).length = n := by rfl) (hst : (assignEach es X.env).findIdx? (·.1) = none := by rfl) : PG' X (.Tuple es kk pos) (gTupI n t) := PG_imp (pg_tup hc h hn hst) fun x σ H Q h => by
  obtain ⟨cm, ls, v, ls', R, hx, e, k⟩ := h
  cases hx with
  | @tup p xs l h1 h2 =>
    simp only [gTupI] at e
    split at e
    · exact ⟨p, xs, rfl, h1.sq, by rw [h2.length]; assumption, cm, ls, l, ls', R, h2, e, k⟩
    · cases e
  | _ => cases e
theorem s_set (i : Nat) {x : Str} {pos' : Pos} (hN : X.N.Nodup) (he : PE' X W e fa) (hi : X.N[i]? = some x := by rfl) (hx : L2.Loc X.env.scope x := by first | exact Or.inl rfl | exact Or.inr rfl) (hs : swapsWith e (some (.Name x pos')) pos.line X.env = pure false := by rfl) (hf : X.fn x = true ∨ X.env.scope.names.lookup x = some .local := by first | exact .inl rfl | exact .inr rfl) :
    PS' X W (.Assign [.Name x pos'] e pos) (mSet i fa) := PS_imp (ps_set hN hi hx he hs hf) fun D σ H h => rdE_mono (rd_liftE h) fun x H1 h1 => by
  obtain ⟨cm, ls, st, v, fl, st2, R, hx, e, o⟩ := h1
  cases e
  exact o cm H1 (Ext.refl _ _) R.sto _ (R.loc.set i hx)
def setAll : List Nat → List IV → Loc → Option Loc
  | [], [], ls => some ls
  | i :: is, v :: vs, ls => setAll is vs (ls.set i (some v))
  | _, _, _ => none
def mPar (is : List Nat) (g : MA) : MS := liftS g fun l ls => match setAll is l ls with
  | some ls' => M.ret (.nx ls')
  | none => M.stuck
theorem rd_liftA {K : PySem.W.Frag} {mg : Str → Option Value} {σ : L2.St} {H : Hp} {D : Ends} {m : MA} {k : List IV → Loc → M Fl} (h : rdS K mg W (liftS m k) D σ H) :
    rdA K mg W m σ H fun xs H1 => ∃ cm ls st l fl st2, Rel K mg cm ls st σ H1 ∧ RepL K mg cm H1 xs l ∧ k l ls st = some (.val fl, st2) ∧ OutS K mg W D cm H1 fl st2 := by
  obtain ⟨cm, ls, st, r, st', R, e, o⟩ := rd_lift h
  refine ⟨cm, ls, st, r, st', R, e, ?_⟩
  cases r with
  | val a =>
    intro cm1 H1 x1 s1 y hy
    obtain ⟨fl, st2, e2, o2⟩ := o cm1 H1 x1 s1
    exact ⟨cm1, ls, st', a, fl, st2, R.ext x1 s1, hy, e2, o2⟩
  | exc c f v => exact o
theorem s_par2 (i j : Nat) {x y : Str} {px py pt : Pos} {kt k2 pt2} (hc : X.calm = true) (hN : X.N.Nodup) (ha : PA' X W [a, b] g) (hi : X.N[i]? = some x := by rfl) (hj : X.N[j]? = some y := by rfl) (hij : i ≠ j := by decide)
    (hx : X.env.scope.names.lookup x = some .local := by rfl) (hy : X.env.scope.names.lookup y = some .local := by rfl)
    (hw : swappedStores [.Tuple [.Name x px, .Name y py] kt pt] (.Tuple [a, b] k2 pt2) X.env = pure (some [x, y]) := by rfl)
    (hs : swapsWithSole [.Tuple [.Name x px, .Name y py] kt pt] (.Tuple [a, b] k2 pt2) pos.line X.env = pure false := by rfl) :
    PS' X W (.Assign [.Tuple [.Name x px, .Name y py] kt pt] (.Tuple [a, b] k2 pt2) pos) (mPar [i, j] g) := PS_imp (ps_par hc hN hi hj hij hx hy ha hw hs) fun D σ H h => rdA_mono (rd_liftA h) fun xs H1 h1 => by
  obtain ⟨cm, ls, st, l, fl, st2, R, hl, e, o⟩ := h1
  cases hl with
  | nil => cases e
  | cons h1 r =>
    cases r with
    | nil => cases e
    | cons h2 r =>
      cases r with
      | cons => cases e
      | nil => cases e; exact ⟨_, _, rfl, o cm H1 (Ext.refl _ _) R.sto _ ((R.loc.set i h1).set j h2)⟩
def putM (o i v : IV) : M Unit := fun st => match o, i with
  | .cell n, .int k => (match st[n]? with
    | some (.lst m) => (match ixN m.length k with
      | some j => if v.pure = true then some (.val (), st.set n (.lst (m.set j v))) else none
      | none => none)
    | _ => none)
  | _, _ => none
def mPut (o i m : ME) : MS := liftS (fun ls => M.bind (m ls) fun v => M.bind (o ls) fun a => M.bind (i ls) fun k => putM a k v) fun _ ls => M.ret (.nx ls)
theorem rd_put {K : PySem.W.Frag} {mg : Str → Option Value} {σ : L2.St} {H : Hp} {D : Ends} {fo fi : ME} (h : rdS K mg W (mPut fo fi fa) D σ H) : tAsg (rdE K mg W fa) (gSub (rdE K mg W fo) (rdE K mg W fi) rSetL) D σ H := by
  obtain ⟨cm, ls, st, r, st', R, e, o⟩ := rd_lift h
  rcases M.bind_inv e with ⟨v, st1, e1, e2⟩ | ⟨c, f, v, e1, rfl⟩
  · refine ⟨cm, ls, st, _, st1, R, e1, fun cm1 H1 x1 s1 y hy => ?_⟩
    rcases M.bind_inv e2 with ⟨a, st2, e3, e4⟩ | ⟨c, f, v, e3, rfl⟩
    · refine ⟨cm1, ls, st1, _, st2, R.ext x1 s1, e3, fun cm2 H2 x2 s2 z hz => ?_⟩
      rcases M.bind_inv e4 with ⟨k, st3, e5, e6⟩ | ⟨c, f, v, e5, rfl⟩
      · refine ⟨cm2, ls, st2, _, st3, (R.ext x1 s1).ext x2 s2, e5, fun cm3 H3 x3 s3 w hw => ?_⟩
        unfold putM at e6
        split at e6
        · rename_i n kk
          cases hw
          split at e6
          · rename_i mm q
            split at e6
            · rename_i j qj
              split at e6
              · rename_i hp
                cases e6
                obtain ⟨p, xs, rfl, g1, g2, g3, g4⟩ := cell_at s3 (hz.ext x3) q
                have hy3 := (hy.ext x2).ext x3
                obtain ⟨E, s4⟩ := cell_put (σ := σ) s3 g1 (g3.set j hy3) (pureL_set j g4 hp)
                obtain ⟨fl, st5, e7, o7⟩ := o cm3 _ (((x1.trans x2).trans x3).trans E) s4
                cases e7
                exact ⟨p, xs, kk, j, rfl, rfl, g2, by rw [g3.length]; exact qj, o7 cm3 _ (Ext.refl _ _) s4 σ (((R.ext x1 s1).ext x2 s2).ext (x3.trans E) s4).loc⟩
              · cases e6
            · cases e6
          · cases e6
        · cases e6
      · exact ⟨cm2, ls, st2, _, st', (R.ext x1 s1).ext x2 s2, e5, fun cm3 H3 x3 s3 => o cm3 H3 ((x1.trans x2).trans x3) s3⟩
    · exact ⟨cm1, ls, st1, _, st', R.ext x1 s1, e3, fun cm2 H2 x2 s2 => o cm2 H2 (x1.trans x2) s2⟩
  · exact ⟨cm, ls, st, _, st', R, e1, o⟩
theorem s_put {o i : Expr} {fo fi : ME} (ho : PE' X W o fo) (hi : PE' X W i fi) (he : PE' X W e fa)
    (ha : ∀ v, assign (.Subscript o i p) X.env v = (do
      let ov ← holding [v] (eval o X.env)
      let iv ← holding [v, ov] (eval i X.env)
      standAt p
      holding [v, ov, iv] (setItem ov iv v)
      release [v, ov, iv] []) := by intro _; rfl)
    (hs : swapsWithSole [.Subscript o i p] e pos.line X.env = pure false := by rfl) (hw : swappedStores [.Subscript o i p] e X.env = pure none := by rfl) (h1 : (assignEach [.Subscript o i p] X.env).map (·.2) = [assign (.Subscript o i p) X.env] := by rfl) :
    PS' X W (.Assign [.Subscript o i p] e pos) (mPut fo fi fa) := PS_imp (ps_asg he (pg_sub ho hi set_list ha) hs hw h1) fun D σ H h => rd_put h
end
end MK
namespace MK
open PySem PySem.Spec PyProof.Rows L2
section
variable {K : PySem.W.Frag} {mg : Str → Option Value} {cm cm' : Wd} {H H' : Hp}
structure Tr (cm : Wd) (H : Hp) (cm' : Wd) (H' : Hp) : Prop where
  ce : ∀ (n : Nat) (a : Addr), cm.cm[n]? = some a → cm'.cm[n]? = some a
  fr : ∀ a o, H a = some o → a ∉ cm.av → H' a = some o ∧ a ∉ cm'.av
theorem Tr.rd (e : Tr cm H cm' H') {a : Addr} {u : HO} (h : Rd H a u) (n : a ∉ cm.av) : Rd H' a u ∧ a ∉ cm'.av := by
  rcases h with h | ⟨o, h⟩
  · exact ⟨.inl (e.fr _ _ h n).1, (e.fr _ _ h n).2⟩
  · exact ⟨.inr ⟨o, (e.fr _ _ h n).1⟩, (e.fr _ _ h n).2⟩
mutual
theorem Rep.tr (e : Tr cm H cm' H') : ∀ {x : V} {v : IV}, Rep K mg cm H x v → Rep K mg cm' H' x v
  | _, _, .non => .non
  | _, _, .bl b => .bl b
  | _, _, .int i => .int i
  | _, _, .str x => .str x
  | _, _, .tup h r => .tup (h.imp (fun h => e.rd h.1 h.2) id) (RepL.tr e r)
  | _, _, .lst h r => .lst (e.fr _ _ h.1 h.2) (RepL.tr e r)
  | _, _, .scr h r => .scr (h.imp (fun ⟨⟨o, h⟩, n⟩ => ⟨⟨o, (e.fr _ _ h n).1⟩, (e.fr _ _ h n).2⟩) id) (RepL.tr e r)
  | _, _, .obj hc h n r => .obj hc (e.fr _ _ h n).1 (e.fr _ _ h n).2 (RepF.tr e r)
  | _, _, .cell h => .cell (e.ce _ _ h)
  | _, _, .exn g c h n r => .exn g c (e.fr _ _ h n).1 (e.fr _ _ h n).2 (Rep.tr e r)
  | _, _, .rng h n => .rng (e.fr _ _ h n).1 (e.fr _ _ h n).2
  | _, _, .err g c h n h' n' r => .err g c (e.fr _ _ h n).1 (e.fr _ _ h n).2 (e.fr _ _ h' n').1 (e.fr _ _ h' n').2 (Rep.tr e r)
theorem RepL.tr (e : Tr cm H cm' H') : ∀ {xs : List V} {l : List IV}, RepL K mg cm H xs l → RepL K mg cm' H' xs l
  | _, _, .nil => .nil
  | _, _, .cons h r => .cons (Rep.tr e h) (RepL.tr e r)
theorem RepF.tr (e : Tr cm H cm' H') : ∀ {xs : List (Str × V)} {l : List (Str × IV)}, RepF K mg cm H xs l → RepF K mg cm' H' xs l
  | _, _, .nil => .nil
  | _, _, .cons h r => .cons (Rep.tr e h) (RepF.tr e r)
end
theorem CellOk.tr (e : Tr cm H cm' H') {a : Addr} {c : CV} (h : CellOk K mg cm H a c) (k : H' a = H a) : CellOk K mg cm' H' a c := by
  cases c with
  | lst l =>
    obtain ⟨xs, h1, h2, h3⟩ := h
    exact ⟨xs, k.trans h1, h2.tr e, h3⟩
  | ins c fs =>
    obtain ⟨C, dx, fs', h0, h1, h2, h3⟩ := h
    exact ⟨C, dx, fs', h0, k.trans h1, h2.tr e, h3⟩
end
section
variable {K : PySem.W.Frag} {mg : Str → Option Value} {cm cm' : Wd} {H H' : Hp} {ls : Loc} {σ : L2.St}
theorem Ext.tr (e : Ext cm H cm' H') : Tr cm H cm' H' := ⟨fun _ _ h => e.at h, fun _ _ h n => e.at2 h n⟩
theorem Tr.trans {cm1 : Wd} {H1 : Hp} (a : Tr cm H cm' H') (b : Tr cm' H' cm1 H1) : Tr cm H cm1 H1 := ⟨fun n x h => b.ce n x (a.ce n x h), fun x o h n => b.fr x o (a.fr x o h n).1 (a.fr x o h n).2⟩
theorem Tr.refl : Tr cm H cm H := ⟨fun _ _ h => h, fun _ _ h n => ⟨h, n⟩⟩
theorem Tr.fzT (e : Tr cm H cm' H') {a : Addr} {xs : List V} (h : FzT K cm H a xs) : FzT K cm' H' a xs := h.imp (fun h => e.rd h.1 h.2) id
theorem Tr.fzS (e : Tr cm H cm' H') {a : Addr} {xs : List V} (h : FzS K cm H a xs) : FzS K cm' H' a xs := h.imp (fun ⟨⟨o, h⟩, n⟩ => ⟨⟨o, (e.fr _ _ h n).1⟩, (e.fr _ _ h n).2⟩) id
theorem Tr.fzL (e : Tr cm H cm' H') {a : Addr} {xs : List V} (h : FzL cm H a xs) : FzL cm' H' a xs := e.fr _ _ h.1 h.2
theorem RelC.tr (e : Tr cm H cm' H') (h : RelC K mg cm ls σ H) : RelC K mg cm' ls σ H' := ⟨h.len, fun i v q => by
  obtain ⟨x, h1, h2⟩ := h.at' i v q
  exact ⟨x, h1, h2.tr e⟩⟩
end
open Classical in
abbrev Src := List IV × Option Nat
abbrev MI := Loc → M Src
def srcOk : Option Nat → List IV → Sto → Prop
  | none, _, _ => True
  | some n, l, st => st[n]? = some (.lst l)
structure Walks (K : PySem.W.Frag) (mg : Str → Option Value) (J : It) (p : Src) (cm : Wd) (H : Hp) : Prop where
  stop : ∀ (i : Nat) (cm1 : Wd) (H1 : Hp) (st1 : Sto), Tr cm H cm1 H1 → RelS K mg cm1 st1 H1 → srcOk p.2 p.1 st1 → p.1.length ≤ i → J.stop i H1
  go : ∀ (i : Nat) (cm1 : Wd) (H1 : Hp) (st1 : Sto) (v : IV), Tr cm H cm1 H1 → RelS K mg cm1 st1 H1 → srcOk p.2 p.1 st1 → p.1[i]? = some v → J.go i H1 ∧ ∀ x H2, J.yld i H1 x H2 → Same H1 H2 ∧ Rep K mg cm1 H2 x v
def rdI (K : PySem.W.Frag) (mg : Str → Option Value) (W : WX) (m : MI) : TI := fun σ H R => Run K mg W σ H m fun cm' H' p => ∀ J, Walks K mg J p cm' H' → R J H'
abbrev PI' (X : Cx) (W : WX) (tg e : Expr) (m : MI) : Prop := PI X tg e (rdI X.K X.mg W m)
theorem PI_imp {X : Cx} {tg e : Expr} {t t' : TI} (h : PI X tg e t) (i : ∀ σ H R, t' σ H R → t σ H R) : PI X tg e t' := ⟨fun pins s σ H R I q => h.run pins s σ H R I (i σ H R q)⟩
section
variable {K : PySem.W.Frag} {mg : Str → Option Value} {σ : L2.St} {H : Hp} {W : WX} {cm : Wd} {st : Sto} {x : V} {a : IV} {l : List IV}
theorem rdI1 {fa : ME} {k : IV → M Src} {R : It → Hp → Prop} (h : rdI K mg W (fun ls => M.bind (fa ls) k) σ H R) :
    rdE K mg W fa σ H fun x H1 => ∃ cm st a p st', RelS K mg cm st H1 ∧ Rep K mg cm H1 x a ∧ k a st = some (p, st') ∧ Out K mg W σ cm H1 (fun cm' H' p => ∀ J, Walks K mg J p cm' H' → R J H') p st' := by
  obtain ⟨cm, ls, st, R, r, st', e, o⟩ := Run.part h
  refine ⟨cm, ls, st, r, st', R, e, ?_⟩
  cases r with
  | val a =>
    intro cm' H' x s
    obtain ⟨r2, st2, e2, o2⟩ := o cm' H' x s
    exact fun y hy => ⟨cm', st', a, r2, st2, s, hy, e2, o2⟩
  | exc c f v => exact o
def srcM (v : IV) : M Src := fun st => match v with
  | .tup l => some (.val (l, none), st)
  | .lst l => some (.val (l, none), st)
  | .scr l => some (.val (l, none), st)
  | .cell n => (match st[n]? with
    | some (.lst l) => some (.val (l, some n), st)
    | _ => none)
  | _ => none
theorem walks_T {p : Addr} {xs : List V} (h : FzT K cm H p xs) (r : RepL K mg cm H xs l) : Walks K mg (Itt K p) (l, none) cm H where
  stop := fun i cm1 H1 st1 e s _ hi => ⟨xs, (e.fzT h).sq, by rw [r.length]; exact hi⟩
  go := fun i cm1 H1 st1 v e s _ hi => by
    obtain ⟨x, h1, h2⟩ := r.get hi
    refine ⟨⟨xs, x, (e.fzT h).sq, h1⟩, fun y H2 hy => ?_⟩
    obtain ⟨rfl, hy⟩ := hy
    have q := hy xs (e.fzT h).sq
    rw [h1] at q; cases q
    exact ⟨Same.refl _, h2.tr e⟩
theorem walks_L {p : Addr} {xs : List V} (h : ∀ cm1 H1, Tr cm H cm1 H1 → SqL K H1 p xs) (r : RepL K mg cm H xs l) : Walks K mg (Itl K p) (l, none) cm H where
  stop := fun i cm1 H1 st1 e s _ hi => ⟨xs, h cm1 H1 e, by rw [r.length]; exact hi⟩
  go := fun i cm1 H1 st1 v e s _ hi => by
    obtain ⟨x, h1, h2⟩ := r.get hi
    refine ⟨⟨xs, x, h cm1 H1 e, h1⟩, fun y H2 hy => ?_⟩
    obtain ⟨rfl, hy⟩ := hy
    have q := hy xs (h cm1 _ e)
    rw [h1] at q; cases q
    exact ⟨Same.refl _, h2.tr e⟩
theorem walks_C {p : Addr} {n : Nat} (h : cm.cm[n]? = some p) : Walks K mg (Itl K p) (l, some n) cm H where
  stop := fun i cm1 H1 st1 e s q hi => by
    obtain ⟨xs, h1, h2, _⟩ := s.at' n p _ (e.ce _ _ h) q
    exact ⟨xs, SqL.of h1, by rw [h2.length]; exact hi⟩
  go := fun i cm1 H1 st1 v e s q hi => by
    obtain ⟨xs, h1, h2, _⟩ := s.at' n p _ (e.ce _ _ h) q
    obtain ⟨x, h3, h4⟩ := h2.get hi
    refine ⟨⟨xs, x, SqL.of h1, h3⟩, fun y H2 hy => ?_⟩
    obtain ⟨rfl, hy⟩ := hy
    have q := hy xs (SqL.of h1)
    rw [h3] at q; cases q
    exact ⟨Same.refl _, h4⟩
end
def iSeq (K : PySem.W.Frag) (tl : TE) : TI := fun σ H R => tl σ H fun x H1 => ∃ a, x = .ref a ∧ (((∃ xs, SqL K H1 a xs) ∧ R (Itl K a) H1) ∨ ((∃ xs, SqT K H1 a xs) ∧ R (Itt K a) H1))
theorem pi_seq {X : Cx} {tg l : Expr} {tl : TE} (hl : PE X l tl) : PI X tg l (iSeq X.K tl) := by
  refine ⟨fun pins s σ H R I h => ?_⟩
  refine thn (hl.run pins s σ H _ I h) fun v s1 ⟨x, H1, I1, r1, q1⟩ => ?_
  obtain ⟨a, e, ⟨⟨xs, hq⟩, q⟩ | ⟨⟨xs, hq⟩, q⟩⟩ := q1
  · subst e
    cases r1
    obtain ⟨its, rv, p, hz⟩ := I1.list hq
    refine wpAny_pyIter_list p.isList ?_
    refine ⟨s1.heap.objs.size, [s1.heap.objs.size], _, _, H1, rfl, I1.kept (t' := s1.toks) fun b o e => Heap.get?_push_of_some _ e, turn_list a _, ⟨_, Heap.get?_push_size _ rfl, rfl, rfl⟩, fun b hb => ?_, q⟩
    have e : b = s1.heap.objs.size := by simpa using hb
    subst e
    exact I1.fpOk (Nat.le_refl _) (I1.hok.fresh (Nat.le_refl _))
  · subst e
    cases r1
    obtain ⟨its, rv, p, hz⟩ := I1.tuple hq
    refine wpAny_pyIter_tuple (show s1.heap.IsTuple a its.toArray from p) ?_
    refine ⟨s1.heap.objs.size, [s1.heap.objs.size], _, _, H1, rfl, I1.kept (t' := s1.toks) fun b o e => Heap.get?_push_of_some _ e, turn_tuple a _, ⟨_, Heap.get?_push_size _ rfl, rfl, rfl⟩, fun b hb => ?_, q⟩
    have e : b = s1.heap.objs.size := by simpa using hb
    subst e
    exact I1.fpOk (Nat.le_refl _) (I1.hok.fresh (Nat.le_refl _))
def mSrc (m : ME) : MI := fun ls => M.bind (m ls) srcM
def rangeI (lo : Int) (n : Nat) : List IV := (List.range n).map fun (i : Nat) => IV.int (lo + (i : Int))
def rng1M (l : List IV) : M Src := fun st => match l with
  | [.int j] => if -(2 ^ 62) ≤ j ∧ j < 2 ^ 62 then some (.val (rangeI 0 j.toNat, none), st) else none
  | _ => none
def mRng1 (g : MA) : MI := fun ls => M.bind (g ls) rng1M
theorem rangeI_get {lo : Int} {n i : Nat} {v : IV} (h : (rangeI lo n)[i]? = some v) : i < n ∧ v = .int (lo + i) := by
  unfold rangeI at h
  rw [List.getElem?_map] at h
  cases q : (List.range n)[i]? with
  | none => rw [q] at h; cases h
  | some j =>
    rw [q] at h
    obtain ⟨h1, h2⟩ := List.getElem?_eq_some_iff.mp q
    simp at h1 h2
    subst h2
    cases h
    exact ⟨h1, rfl⟩
theorem walks_R {K : PySem.W.Frag} {mg : Str → Option Value} {cm : Wd} {H : Hp} (lo : Int) (n : Nat) : Walks K mg (Itr lo n) (rangeI lo n, none) cm H where
  stop := fun i cm1 H1 st1 e s _ hi => by
    have : (rangeI lo n).length = n := by unfold rangeI; simp
    rw [this] at hi
    exact hi
  go := fun i cm1 H1 st1 v e s _ hi => by
    obtain ⟨h1, rfl⟩ := rangeI_get hi
    refine ⟨h1, fun y H2 hy => ?_⟩
    obtain ⟨rfl, rfl⟩ := hy
    exact ⟨Same.refl _, .int _⟩
section
variable {X : Cx} {W : WX} {tg a b e : Expr} {fa : ME} {g : MA} {p pos : Pos}
theorem i_seq (h : PE' X W e fa) : PI' X W tg e (mSrc fa) := PI_imp (pi_seq h) fun σ H R h => rdE_mono (rdI1 h) fun x H1 h1 => by
  obtain ⟨cm, st, v, r, st', s, hx, e, o⟩ := h1
  cases v with
  | tup l =>
    cases e
    cases hx with
    | tup h1 h2 => exact ⟨_, rfl, .inr ⟨⟨_, h1.sq⟩, o cm H1 (Ext.refl _ _) s _ (walks_T h1 h2)⟩⟩
  | lst l =>
    cases e
    cases hx with
    | lst h1 h2 => exact ⟨_, rfl, .inl ⟨⟨_, h1.sq⟩, o cm H1 (Ext.refl _ _) s _ (walks_L (fun cm1 H1 e => (e.fzL h1).sq) h2)⟩⟩
  | scr l =>
    cases e
    cases hx with
    | scr h1 h2 => exact ⟨_, rfl, .inl ⟨⟨_, h1.sq⟩, o cm H1 (Ext.refl _ _) s _ (walks_L (fun cm1 H1 e => (e.fzS h1).sq) h2)⟩⟩
  | cell n =>
    simp only [srcM] at e
    split at e
    · rename_i l q
      cases e
      cases hx with
      | @cell p _ h =>
        obtain ⟨xs, h1, h2, _⟩ := s.at' n p _ h q
        exact ⟨_, rfl, .inl ⟨⟨_, SqL.of h1⟩, o cm H1 (Ext.refl _ _) s _ (walks_C h)⟩⟩
    · cases e
  | _ => cases e
theorem rdIA {K : PySem.W.Frag} {mg : Str → Option Value} {σ : L2.St} {H : Hp} {k : List IV → M Src} {R : It → Hp → Prop} (h : rdI K mg W (fun ls => M.bind (g ls) k) σ H R) :
    rdA K mg W g σ H fun xs H1 => ∃ cm st l p st', RelS K mg cm st H1 ∧ RepL K mg cm H1 xs l ∧ k l st = some (p, st') ∧ Out K mg W σ cm H1 (fun cm' H' p => ∀ J, Walks K mg J p cm' H' → R J H') p st' := rdA1 h
theorem i_rng1 (hg : Gl X "range") (hm : X.mg "range" = none) (ha : PA' X W [a] g) (hs : starEach [a] X.env = [(false, eval a X.env)] := by rfl) : PI' X W tg (.Call (.Name "range" p) [a] [] pos) (mRng1 g) := PI_imp (pi_range1 hg hm ha hs) fun σ H R h => rdA_mono (rdIA h) fun xs H1 h1 => by
  obtain ⟨cm, st, l, r, st', s, hx, e, o⟩ := h1
  unfold rng1M at e
  split at e
  · split at e
    · rename_i j hj
      cases e
      obtain ⟨y, rfl, hy⟩ := rep1 hx
      cases hy
      exact ⟨j, rfl, hj.1, hj.2, o cm H1 (Ext.refl _ _) s _ (walks_R 0 j.toNat)⟩
    · cases e
  · cases e
end
open Classical in
noncomputable def forL (t : MG) (body : MS) (l0 : List IV) (k : Option Nat) : List IV → Loc → M Fl
  | [], ls => fun st => if srcOk k l0 st then some (.val (.nx ls), st) else none
  | v :: vs, ls => fun st => if srcOk k l0 st then (match t ls v with
    | some ls1 => M.bind (body ls1) (fun fl => match fl with
      | .nx ls2 => forL t body l0 k vs ls2
      | .ct ls2 => forL t body l0 k vs ls2
      | .bk ls2 => M.ret (.nx ls2)
      | fl => M.ret fl) st
    | none => none) else none
noncomputable def mFor (src : MI) (t : MG) (body : MS) : MS := liftS src fun p ls => forL t body p.1 p.2 p.1 ls
section
variable {X : Cx} {W : WX} {tg iter : Expr} {src : MI} {t : MG} {body : MS} {sb : List Stmt} {pos : Pos}
theorem rd_for {K : PySem.W.Frag} {mg : Str → Option Value} {σ : L2.St} {H : Hp} {D : Ends} (h : rdS K mg W (mFor src t body) D σ H) : tFor (rdI K mg W src) (rdG K mg t) (rdS K mg W body) D σ H := by
  obtain ⟨cm, ls, st, r, st', R, e, o⟩ := rd_lift h
  refine ⟨cm, ls, st, r, st', R, e, ?_⟩
  cases r with
  | exc c f v => exact o
  | val p =>
    intro cm1 H1 x1 s1 J wk
    obtain ⟨fl, st2, e2, o2⟩ := o cm1 H1 x1 s1
    refine ⟨fun i m σ' H' => m = p.1.length - i ∧ i ≤ p.1.length ∧ ∃ cm2 ls2 st2 fl st3, Ext cm1 H1 cm2 H' ∧ Rel K mg cm2 ls2 st2 σ' H' ∧ forL t body p.1 p.2 (p.1.drop i) ls2 st2 = some (.val fl, st3) ∧ OutS K mg W D cm2 H' fl st3,
      ⟨p.1.length, by simp, Nat.zero_le _, cm1, ls, st', fl, st2, Ext.refl _ _, R.ext x1 s1, by simpa using e2, o2⟩, ?_⟩
    rintro i m σ2 H2 ⟨rfl, hi, cm2, ls2, st2, fl, st3, x2, R2, e2, o2⟩
    by_cases hlt : i < p.1.length
    · have hd : p.1.drop i = p.1[i] :: p.1.drop (i + 1) := List.drop_eq_getElem_cons hlt
      rw [hd] at e2
      simp only [forL] at e2
      split at e2
      · rename_i hok
        cases q : t ls2 p.1[i] with
        | none => rw [q] at e2; cases e2
        | some ls3 =>
          rw [q] at e2
          obtain ⟨g1, g2⟩ := wk.go i cm2 H2 st2 p.1[i] x2.tr R2.sto hok (by simp [hlt])
          refine .inr ⟨g1, fun σ' H' => i + 1 ≤ p.1.length ∧ ∃ cm2 ls2 st2 fl st3, Ext cm1 H1 cm2 H' ∧ Rel K mg cm2 ls2 st2 σ' H' ∧ forL t body p.1 p.2 (p.1.drop (i + 1)) ls2 st2 = some (.val fl, st3) ∧ OutS K mg W D cm2 H' fl st3,
            fun σ' H' h => ⟨p.1.length - (i + 1), by omega, rfl, h.1, h.2⟩, fun x H3 hy => ?_⟩
          obtain ⟨g3, g4⟩ := g2 x H3 hy
          have E3 : Ext cm2 H2 cm2 H3 := Ext.same g3
          have S3 := R2.sto.same g3
          refine ⟨cm2, ls2, p.1[i], ls3, (R2.ext E3 S3).loc, g4, q, fun σ4 R4 => ?_⟩
          rcases M.bind_inv e2 with ⟨fl1, st4, e4, e5⟩ | ⟨c, f, v, e4, q4⟩
          · refine ⟨cm2, ls3, st2, fl1, st4, ⟨S3, R4⟩, e4, fun cm5 H5 x5 s5 => ?_⟩
            have E5 : Ext cm1 H1 cm5 H5 := (x2.trans E3).trans x5
            have O5 : OutS K mg W D cm5 H5 fl st3 := fun cm6 H6 x6 s6 => o2 cm6 H6 ((E3.trans x5).trans x6) s6
            cases fl1 with
            | nx ls5 => exact fun σ5 R5 => ⟨hlt, cm5, ls5, st4, fl, st3, E5, ⟨s5, R5⟩, e5, O5⟩
            | ct ls5 => exact fun σ5 R5 => ⟨hlt, cm5, ls5, st4, fl, st3, E5, ⟨s5, R5⟩, e5, O5⟩
            | bk ls5 => cases e5; exact fun σ5 R5 => O5 cm5 H5 (Ext.refl _ _) s5 σ5 R5
            | rt v => cases e5; exact fun x hx => O5 cm5 H5 (Ext.refl _ _) s5 x hx
            | ex ls5 c f v => cases e5; exact fun σ5 R5 => O5 cm5 H5 (Ext.refl _ _) s5 σ5 R5
          · cases q4
      · cases e2
    · have hd : p.1.drop i = [] := List.drop_eq_nil_of_le (by omega)
      rw [hd] at e2
      simp only [forL] at e2
      split at e2
      · rename_i hok
        cases e2
        exact .inl ⟨wk.stop i cm2 H2 st2 x2.tr R2.sto hok (by omega), o2 cm2 H2 (Ext.refl _ _) R2.sto σ2 R2.loc⟩
      · cases e2
theorem s_for (hp : PassesOwn (model X.prog X.w) X.A X.env X.xe) (hc : X.calm = true) (hi : PI' X W tg iter src) (hg : PG' X tg t) (hb : PSs' X W sb body)
    (hs : ∀ x, foldedSetIterable iter X.env x = pure x := by intro _; rfl) : PS' X W (.For tg iter sb [] pos) (mFor src t body) := PS_imp (ps_for hp hc hi hg hb hs) fun D σ H h => rd_for h
end
end MK
namespace MK
open PySem PySem.Spec PyProof.Rows L2
section
variable {K : PySem.W.Frag} {mg : Str → Option Value} {σ : L2.St} {H H1 : Hp} {W : WX} {cm cm1 : Wd} {st st1 st' : Sto} {Q : VK} {c : Bool} {l : List IV} {xs : List V} {r : OX IV} {D : Addr}
structure Making (K : PySem.W.Frag) (mg : Str → Option Value) (cm : Wd) (H : Hp) (cm1 : Wd) (H1 : Hp) (st1 : Sto) (D : Addr) (xs : List V) (l : List IV) : Prop where
  ext : Ext cm H cm1 H1
  sto : RelS K mg cm1 st1 H1
  av : D ∈ cm1.av
  nc : D ∉ cm1.cm
  at' : H1 D = some (.lst xs)
  rep : RepL K mg cm1 H1 xs l
theorem Making.mk0 (s : RelS K mg cm st H) (n : H D = none) : Making K mg cm H (cm.avoid D) (upd H D (.lst [])) st D [] [] where
  ext := Ext.avoid n
  sto := by
    have E : Ext cm H (cm.avoid D) (upd H D (.lst [])) := Ext.avoid n
    refine ⟨s.len, s.nd, fun i a c h1 h2 => ?_, fun a m => ?_⟩
    · exact (s.at' i a c h1 h2).ext E (upd_ne fun z => s.notCell n (z ▸ List.mem_of_getElem? h1))
    · rcases List.mem_cons.mp m with m | m
      · subst m; exact ⟨_, upd_same⟩
      · obtain ⟨o, q⟩ := s.avs a m
        have ne : a ≠ D := fun z => s.notAv n (z ▸ m)
        exact ⟨o, by rw [upd_ne ne]; exact q⟩
  av := List.mem_cons_self
  nc := s.notCell n
  at' := upd_same
  rep := .nil
theorem Making.step (m : Making K mg cm H cm1 H1 st1 D xs l) (n : H D = none) {cm2 : Wd} {H2 : Hp} {st2 : Sto} (E : Ext cm1 H1 cm2 H2) (s : RelS K mg cm2 st2 H2) : Making K mg cm H cm2 H2 st2 D xs l where
  ext := m.ext.trans E
  sto := s
  av := E.keep D m.av
  nc := E.new D _ m.at' m.nc
  at' := E.fr D _ m.at' m.nc
  rep := m.rep.ext E
theorem Making.add (m : Making K mg cm H cm1 H1 st1 D xs l) (n : H D = none) {y : V} {v : IV} (hy : Rep K mg cm1 H1 y v) : Making K mg cm H cm1 (upd H1 D (.lst (xs ++ [y]))) st1 D (xs ++ [y]) (l ++ [v]) := by
  have T : Tr cm1 H1 cm1 (upd H1 D (.lst (xs ++ [y]))) := ⟨fun _ _ h => h, fun a o h na => ⟨(upd_ne (fun z : a = D => na (z ▸ m.av))).trans h, na⟩⟩
  refine ⟨⟨m.ext.pre, fun a o h na => ?_, m.ext.av, m.ext.new, m.ext.keep⟩, ⟨m.sto.len, m.sto.nd, fun i a c h1 h2 => ?_, fun a h => ?_⟩, m.av, m.nc, upd_same, (m.rep.tr T).app (.cons (hy.tr T) .nil)⟩
  · rw [upd_ne (ne_of_none h n)]; exact m.ext.fr a o h na
  · exact (m.sto.at' i a c h1 h2).tr T (upd_ne fun z => m.nc (z ▸ List.mem_of_getElem? h1))
  · by_cases z : a = D
    · subst z; exact ⟨_, upd_same⟩
    · obtain ⟨o, q⟩ := m.sto.avs a h
      exact ⟨o, by rw [upd_ne z]; exact q⟩
theorem Making.done (m : Making K mg cm H cm1 H1 st1 D xs l) (s0 : RelS K mg cm st H) (n : H D = none) (e : newL c l st1 = some (r, st')) (o : Out K mg W σ cm H (GE K mg Q) r st') : Q (.ref D) H1 := by
  cases c with
  | false =>
    cases e
    have sb0 : ∀ a, a ∈ cm1.cm → a ∈ cm1.av.filter (fun a => decide (a ≠ D)) := fun a h => List.mem_filter.mpr ⟨cm1.sub a h, by
      have : a ≠ D := fun z => m.nc (z ▸ h)
      simpa using this⟩
    have T : Tr cm1 H1 ⟨cm1.cm, cm1.av.filter (fun a => decide (a ≠ D)), sb0⟩ H1 := ⟨fun _ _ h => h, fun a o h na => ⟨h, fun z => na (List.mem_filter.mp z).1⟩⟩
    refine o ⟨cm1.cm, cm1.av.filter (fun a => decide (a ≠ D)), sb0⟩ H1
      ⟨m.ext.pre, m.ext.fr, fun a o h na z => m.ext.av a o h na (List.mem_filter.mp z).1, m.ext.new, fun a h => List.mem_filter.mpr ⟨m.ext.keep a h, ?_⟩⟩ ⟨m.sto.len, m.sto.nd, fun i a c h1 h2 => (m.sto.at' i a c h1 h2).tr T rfl, fun a h => m.sto.avs a (List.mem_filter.mp h).1⟩ _ (.lst ⟨m.at', ?_⟩ (m.rep.tr T))
    · have : a ≠ D := fun z => s0.notAv n (z ▸ h)
      simpa using this
    · intro z
      have := (List.mem_filter.mp z).2
      simp at this
  | true =>
    simp only [newL] at e
    split at e
    · rename_i q
      cases e
      have sb : ∀ a, a ∈ cm1.cm ++ [D] → a ∈ cm1.av := fun a h => by
        rcases List.mem_append.mp h with h | h
        · exact cm1.sub a h
        · simp at h; subst h; exact m.av
      have T : Tr cm1 H1 ⟨cm1.cm ++ [D], cm1.av, sb⟩ H1 := ⟨fun i a h => by
        show (cm1.cm ++ [D])[i]? = some a
        rw [List.getElem?_append_left (List.getElem?_eq_some_iff.mp h).1]; exact h, fun a o h na => ⟨h, na⟩⟩
      refine o ⟨cm1.cm ++ [D], cm1.av, sb⟩ H1 ⟨?_, m.ext.fr, m.ext.av, fun a o h na z => ?_, m.ext.keep⟩ ⟨by simp [m.sto.len], ?_, fun i a c h1 h2 => ?_, m.sto.avs⟩ _ (.cell ?_)
      · obtain ⟨l', q'⟩ := m.ext.pre
        exact ⟨l' ++ [D], by rw [← List.append_assoc, ← q']⟩
      · rcases List.mem_append.mp z with z | z
        · exact m.ext.new a o h na z
        · simp at z; subst z; rw [n] at h; cases h
      · show (cm1.cm ++ [D]).Nodup
        rw [List.nodup_append]
        exact ⟨m.sto.nd, by simp, fun a ha b hb => by simp at hb; subst hb; exact fun z => m.nc (z ▸ ha)⟩
      · have h1' : (cm1.cm ++ [D])[i]? = some a := h1
        by_cases hi : i < cm1.cm.length
        · rw [List.getElem?_append_left hi] at h1'
          rw [List.getElem?_append_left (by rw [← m.sto.len]; exact hi)] at h2
          exact (m.sto.at' i a c h1' h2).tr T rfl
        · have hi' : i = cm1.cm.length := by
            have := (List.getElem?_eq_some_iff.mp h1').1
            simp at this
            omega
          subst hi'
          rw [List.getElem?_append_right (Nat.le_refl _)] at h1'
          rw [m.sto.len, List.getElem?_append_right (Nat.le_refl _)] at h2
          simp at h1' h2
          subst h1' h2
          exact ⟨xs, m.at', m.rep.tr T, q⟩
      · show (cm1.cm ++ [D])[st1.length]? = some D
        rw [← m.sto.len, List.getElem?_append_right (Nat.le_refl _)]
        simp
    · cases e
end
abbrev W0 : WX := fun _ _ _ _ => False
def M.nox {α : Type} (m : M α) : M α := fun st => match m st with
  | some (.val a, st') => some (.val a, st')
  | _ => none
theorem M.nox_inv {α : Type} {m : M α} {st st' : Sto} {r : OX α} (h : M.nox m st = some (r, st')) : ∃ a, r = .val a ∧ m st = some (.val a, st') := by
  unfold M.nox at h
  split at h
  · cases h; exact ⟨_, rfl, by assumption⟩
  · cases h
theorem M.nox_run {α : Type} {m : M α} {st st' : Sto} {a : α} (h : m st = some (.val a, st')) : M.nox m st = some (.val a, st') := by unfold M.nox; rw [h]
def wipeI (ls : Loc) : List Nat → Loc
  | [] => ls
  | v :: vs => (wipeI ls vs).set v none
open Classical in
noncomputable def compL (t : MG) (c : MT) (e : ME) (l0 : List IV) (k : Option Nat) (ls : Loc) : List IV → M (List IV)
  | [] => fun st => if srcOk k l0 st then some (.val [], st) else none
  | v :: vs => fun st => if srcOk k l0 st then (match t ls v with
    | some ls1 => M.bind (M.nox (c ls1)) (fun b => if b = true then M.bind (M.nox (e ls1)) fun y => M.bind (compL t c e l0 k ls vs) fun ys => M.ret (y :: ys) else compL t c e l0 k ls vs) st
    | none => none) else none
noncomputable def mLc (cell : Bool) (src : MI) (vs : List Nat) (t : MG) (c : MT) (e : ME) : ME := fun ls => M.bind (src ls) fun p => M.bind (M.nox (compL t c e p.1 p.2 (wipeI ls vs) p.1)) fun l => if l.length ≤ 16777215 then newL cell l else M.stuck
def CT (K : PySem.W.Frag) (mg : Str → Option Value) (vs : List Nat) (t : MG) (g : TG) : Prop :=
  ∀ (x : V) (σ : L2.St) (H : Hp) (Q : L2.St → Hp → Prop) (cm : Wd) (ls : Loc) (v : IV) (ls' : Loc), RelC K mg cm ls σ H → Rep K mg cm H x v → t ls v = some ls' →
    (∀ σ', RelC K mg cm ls' σ' H → σ'.length = σ.length → (∀ j, j ∉ vs → σ'[j]? = σ[j]?) → Q σ' H) → g x σ H Q
theorem ct_name {K : PySem.W.Frag} {mg : Str → Option Value} (i : Nat) : CT K mg [i] (gSet i) (gName i) := by
  intro x σ H Q cm ls v ls' R hx e k
  cases e
  exact k _ (R.set i hx) (by simp) fun j hj => by rw [List.getElem?_set_ne (fun z => hj (by simp [z]))]
theorem wipe_in {σ : L2.St} {i : Nat} : ∀ {vs : List Nat}, i ∈ vs → i < σ.length → (wipe σ vs)[i]? = some none
  | [], h, _ => by cases h
  | v :: vs, h, hl => by
    unfold wipe
    by_cases e : v = i
    · subst e
      rw [List.getElem?_set_self (by rw [wipe_length]; exact hl)]
    · rw [List.getElem?_set_ne e]
      exact wipe_in ((List.mem_cons.mp h).resolve_left fun z => e z.symm) hl
theorem wipe_eq {σ σ' : L2.St} {vs : List Nat} (hl : σ'.length = σ.length) (h : ∀ j, j ∉ vs → σ'[j]? = σ[j]?) : wipe σ' vs = wipe σ vs := by
  apply List.ext_getElem?
  intro i
  by_cases hi : i ∈ vs
  · by_cases hl2 : i < σ.length
    · rw [wipe_in hi hl2, wipe_in hi (by rw [hl]; exact hl2)]
    · rw [List.getElem?_eq_none (by rw [wipe_length]; omega), List.getElem?_eq_none (by rw [wipe_length]; omega)]
  · rw [wipe_out hi, wipe_out hi, h i hi]
theorem wipe_wipe {σ : L2.St} {vs : List Nat} : wipe (wipe σ vs) vs = wipe σ vs := wipe_eq (wipe_length σ vs) fun j hj => wipe_out hj
theorem wipeI_length (ls : Loc) : ∀ vs : List Nat, (wipeI ls vs).length = ls.length
  | [] => rfl
  | v :: vs => by unfold wipeI; rw [List.length_set, wipeI_length ls vs]
theorem wipeI_some {ls : Loc} {i : Nat} {x : IV} : ∀ {vs : List Nat}, (wipeI ls vs)[i]? = some (some x) → ls[i]? = some (some x) ∧ i ∉ vs
  | [], h => ⟨h, by simp⟩
  | v :: vs, h => by
    unfold wipeI at h
    by_cases hi : v = i
    · subst hi
      by_cases hv : v < (wipeI ls vs).length
      · rw [List.getElem?_set_self hv] at h; cases h
      · rw [List.getElem?_eq_none (by simpa using hv)] at h; cases h
    · rw [List.getElem?_set_ne hi] at h
      obtain ⟨h1, h2⟩ := wipeI_some h
      exact ⟨h1, by simp only [List.mem_cons, not_or]; exact ⟨fun e => hi e.symm, h2⟩⟩
section
variable {K : PySem.W.Frag} {mg : Str → Option Value} {σ : L2.St} {H : Hp} {W : WX} {cm : Wd} {ls : Loc}
theorem RelC.wipe (h : RelC K mg cm ls σ H) (vs : List Nat) : RelC K mg cm (wipeI ls vs) (L2.wipe σ vs) H := ⟨by rw [wipeI_length, wipe_length]; exact h.len, fun i v e => by
  obtain ⟨h1, h2⟩ := wipeI_some e
  obtain ⟨x, h3, h4⟩ := h.at' i v h1
  exact ⟨x, by rw [wipe_out h2]; exact h3, h4⟩⟩
theorem rd_lc {cell : Bool} {src : MI} {vs : List Nat} {t : MG} {g : TG} {c : MT} {e : ME} {Q : VK} (ct : CT K mg vs t g) (h : rdE K mg W (mLc cell src vs t c e) σ H Q) : tLc (rdI K mg W src) g (rdT K mg W0 c) (rdE K mg W0 e) vs σ H Q := by
  obtain ⟨cm, ls, st, r, st', R, e0, o⟩ := h
  have zl := sizeLine_eq
  rcases M.bind_inv e0 with ⟨p, st1, e1, e2⟩ | ⟨c, f, v, e1, rfl⟩
  · refine ⟨cm, ls, st, _, st1, R, e1, fun cm1 H1 x1 s1 J wk D hD => ?_⟩
    rcases M.bind_inv e2 with ⟨l, st2, e3, e4⟩ | ⟨c, f, v, e3, rfl⟩
    · obtain ⟨l', q1, e3'⟩ := M.nox_inv e3
      cases q1
      split at e4
      · rename_i hlen
        have o1 : Out K mg W σ cm1 H1 (GE K mg Q) r st' := by
          cases r with
          | val a => exact fun cm2 H2 x2 s2 => o cm2 H2 (x1.trans x2) s2
          | exc c f v => exact fun cm2 H2 x2 s2 => o cm2 H2 (x1.trans x2) s2
        have R1 := (R.loc.ext x1).wipe vs
        refine ⟨fun i m H2 => m = p.1.length - i ∧ i ≤ p.1.length ∧ ∃ cm2 st3 xs accI rest, Making K mg cm1 H1 cm2 H2 st3 D xs accI ∧ compL t c e p.1 p.2 (wipeI ls vs) (p.1.drop i) st3 = some (.val rest, st2) ∧ accI ++ rest = l,
          ⟨p.1.length, by simp, Nat.zero_le _, cm1.avoid D, st1, [], [], l, Making.mk0 s1 hD, by simpa using e3', rfl⟩, ?_⟩
        rintro i m H2 ⟨rfl, hi, cm2, st3, xs, accI, rest, mk, e5, hl⟩
        by_cases hlt : i < p.1.length
        · have hd : p.1.drop i = p.1[i] :: p.1.drop (i + 1) := List.drop_eq_getElem_cons hlt
          rw [hd] at e5
          simp only [compL] at e5
          split at e5
          · rename_i hok
            cases q : t (wipeI ls vs) p.1[i] with
            | none => rw [q] at e5; cases e5
            | some ls3 =>
              rw [q] at e5
              obtain ⟨g1, g2⟩ := wk.go i cm2 H2 st3 p.1[i] mk.ext.tr mk.sto hok (by simp [hlt])
              refine .inr ⟨g1, fun H' => i + 1 ≤ p.1.length ∧ ∃ cm2 st3 xs accI rest, Making K mg cm1 H1 cm2 H' st3 D xs accI ∧ compL t c e p.1 p.2 (wipeI ls vs) (p.1.drop (i + 1)) st3 = some (.val rest, st2) ∧ accI ++ rest = l,
                fun H' h => ⟨p.1.length - (i + 1), by omega, rfl, h.1, h.2⟩, fun x H3 hy => ?_⟩
              obtain ⟨g3, g4⟩ := g2 x H3 hy
              have E3 : Ext cm2 H2 cm2 H3 := Ext.same g3
              have mk3 := mk.step hD E3 (mk.sto.same g3)
              refine ct x (wipe σ vs) H3 _ cm2 (wipeI ls vs) p.1[i] ls3 (R1.ext mk3.ext) g4 q fun σ4 R4 hl4 ha4 => ⟨?_, ?_⟩
              · rw [wipe_eq hl4 ha4, wipe_wipe]
              · rcases M.bind_inv e5 with ⟨b, st4, e6, e7⟩ | ⟨c', f, v, e6, q6⟩
                · obtain ⟨b', q7, e6'⟩ := M.nox_inv e6
                  cases q7
                  refine ⟨cm2, ls3, st3, _, st4, ⟨mk3.sto, R4⟩, e6', fun cm5 H5 x5 s5 => ?_⟩
                  have mk5 := mk3.step hD x5 s5
                  cases b with
                  | false => exact ⟨hlt, cm5, st4, xs, accI, rest, mk5, e7, hl⟩
                  | true =>
                    rcases M.bind_inv e7 with ⟨y, st6, e8, e9⟩ | ⟨c', f, v, e8, q8⟩
                    · obtain ⟨y', q9, e8'⟩ := M.nox_inv e8
                      cases q9
                      refine ⟨cm5, ls3, st4, _, st6, ⟨s5, R4.ext x5⟩, e8', fun cm6 H6 x6 s6 yv hy6 => ?_⟩
                      have mk6 := mk5.step hD x6 s6
                      rcases M.bind_inv e9 with ⟨ys, st7, e10, e11⟩ | ⟨c', f, v, e10, q10⟩
                      · cases e11
                        refine ⟨xs, mk6.at', ?_, hlt, cm6, st6, xs ++ [yv], accI ++ [y], ys, mk6.add hD hy6, e10, by rw [List.append_assoc]; exact hl⟩
                        have l1 := mk6.rep.length
                        have l2 := congrArg List.length hl
                        rw [List.length_append] at l2
                        omega
                      · cases q10
                    · cases q8
                · cases q6
          · cases e5
        · have hd : p.1.drop i = [] := List.drop_eq_nil_of_le (by omega)
          rw [hd] at e5
          simp only [compL] at e5
          split at e5
          · rename_i hok
            cases e5
            rw [List.append_nil] at hl
            subst hl
            exact .inl ⟨wk.stop i cm2 H2 st2 mk.ext.tr mk.sto hok (by omega), mk.done s1 hD e4 o1⟩
          · cases e5
      · cases e4
    · obtain ⟨_, q, _⟩ := M.nox_inv e3
      cases q
  · exact ⟨cm, ls, st, _, st', R, e1, o⟩
end
end MK
namespace MK
open PySem PySem.Spec PyProof.Rows L2
abbrev PTs' (X : Cx) (W : WX) (ifs : List Expr) (m : MT) : Prop := PTs X ifs (rdT X.K X.mg W m)
theorem PTs_imp {X : Cx} {ifs : List Expr} {t t' : TT} (h : PTs X ifs t) (i : ∀ σ H Q, t' σ H Q → t σ H Q) : PTs X ifs t' := ⟨fun pins s σ H Q I q => h.run pins s σ H Q I (i σ H Q q)⟩
section
variable {X : Cx} {W : WX} {tg iter elt e : Expr} {ifs : List Expr} {own : List (Str × Nat)} {scope : Scope} {pos spos : Pos} {src : MI} {t : MG} {g : TG} {c : MT} {m : ME} {tc : MT} {fa : ME}
theorem ts_nil : PTs' X W [] (mTB true) := PTs_imp pts_nil fun _ _ _ h => rd_tb h
theorem ts_one {a : Expr} (h : PT' X W a tc) : PTs' X W [a] tc := pts_one h
theorem e_lc (cell : Bool) (own : List (Str × Nat)) (ct : CT X.K X.mg (own.map (·.2)) t g) (hc : X.calm = true) (hN : X.N.Nodup) (hi : PI' X W tg iter src) (ok : BlkOk X.N X.env.scope scope own)
    (hg : ∀ (s : Shared) (H : Hp) (C : Addr) (cl : List (Str × Addr)) (fp : List Addr), PG (X.blk s H scope (compEnvC scope cl C X.env) fp) tg g)
    (ht : ∀ (s : Shared) (H : Hp) (C : Addr) (cl : List (Str × Addr)) (fp : List Addr), PTs' (X.blk s H scope (compEnvC scope cl C X.env) fp) W0 ifs c)
    (he : ∀ (s : Shared) (H : Hp) (C : Addr) (cl : List (Str × Addr)) (fp : List Addr), PE' (X.blk s H scope (compEnvC scope cl C X.env) fp) W0 elt m) (hs : ∀ x, foldedSetIterable iter X.env x = pure x := by intro _; rfl) :
    PE' X W (.ListComp elt [⟨tg, iter, ifs, 0⟩] scope pos) (mLc cell src (own.map (·.2)) t c m) :=
  PE_imp (pe_lc hc hN hi ok hg ht he hs) fun _ _ _ h => rd_lc ct h
theorem s_setLc (cell : Bool) (i : Nat) (own : List (Str × Nat)) {y : Str} {py : Pos} (ct : CT X.K X.mg (own.map (·.2)) t g) (hc : X.calm = true) (hN : X.N.Nodup) (hi : PI' X W tg iter src) (ok : BlkOk X.N X.env.scope scope own)
    (hg : ∀ (s : Shared) (H : Hp) (C : Addr) (cl : List (Str × Addr)) (fp : List Addr), PG (X.blk s H scope (compEnvC scope cl C X.env) fp) tg g)
    (ht : ∀ (s : Shared) (H : Hp) (C : Addr) (cl : List (Str × Addr)) (fp : List Addr), PTs' (X.blk s H scope (compEnvC scope cl C X.env) fp) W0 ifs c)
    (he : ∀ (s : Shared) (H : Hp) (C : Addr) (cl : List (Str × Addr)) (fp : List Addr), PE' (X.blk s H scope (compEnvC scope cl C X.env) fp) W0 elt m)
    (hy : X.N[i]? = some y := by rfl) (hyl : X.env.scope.names.lookup y = some .local := by rfl)
    (hsw : swapsWith (.ListComp elt [⟨tg, iter, ifs, 0⟩] scope pos) (some (.Name y py)) spos.line X.env = pure true := by exact sw_true rfl rfl rfl (by decide +kernel)) (hs : ∀ x, foldedSetIterable iter X.env x = pure x := by intro _; rfl) :
    PS' X W (.Assign [.Name y py] (.ListComp elt [⟨tg, iter, ifs, 0⟩] scope pos) spos) (mSet i (mLc cell src (own.map (·.2)) t c m)) :=
  PS_imp (ps_setLc hc hN hy hyl hsw hi ok hg ht he hs) fun D σ H h => rd_lc ct (rdE_mono (rd_liftE h) fun x H1 h1 => by
    obtain ⟨cm, ls, st, v, fl, st2, R, hx, e, o⟩ := h1
    cases e
    exact o cm H1 (Ext.refl _ _) R.sto _ (R.loc.set i hx))
end
section
variable {X : Cx} {CX : CXT} {k : Nat} {f C : Addr} {fd : FuncData} {ps : List Str} {sp : Sp} {E : L2.St → XK} {x : Str} {p pos : Pos} {e : Expr} {es : List Expr} {ta : TA}
def tMakeS (C : Addr) (sp : Sp) (E : L2.St → XK) (t : TA) : TE := fun σ H Q => t σ H fun vs H1 => ∀ x dx, H1 x = none → H1 dx = none → dx ≠ x →
  sp (.ref x :: vs) (upd (upd H1 dx (.own x)) x (.ins C dx [])) (fun v H2 => v = .non ∧ Q (.ref x) H2) (E σ)
theorem run_makeS {pins : List (Addr × Obj)} {σ : L2.St} {H : Hp} {s : Shared} {Q : VK} {us : List Value} {vs : List V} {E : XK} (M : Mk X.K C f) (F : FnOk X.prog X.w X.K X.mg X.base CX k f fd ps sp) (hr : Room (k + 1) X.A) (hb : Binds X.K fd ps [])
    (hx : PassesAt CX X σ E) (I : Inv X pins σ H s) (r : Vals vs us)
    (h : ∀ x dx, H x = none → H dx = none → dx ≠ x → sp (.ref x :: vs) (upd (upd H dx (.own x)) x (.ins C dx [])) (fun v H2 => v = .non ∧ Q (.ref x) H2) E) :
    wpAny (model X.prog X.w) X.A (call (.ref C) us) (EP X pins σ Q) X.xe s := by
  have hq := h (s.heap.objs.size + 1) s.heap.objs.size (I.hok.fresh (Nat.le_succ _)) (I.hok.fresh (Nat.le_refl _)) (Nat.ne_of_lt (Nat.lt_succ_self _))
  have I2 := Inv.made (C := C) I
  have r2 : Vals (V.ref (s.heap.objs.size + 1) :: vs) (Value.ref (s.heap.objs.size + 1) :: us) := .cons rfl r
  have hl : (Value.ref (s.heap.objs.size + 1) :: us).length = ps.length := by
    have e := r2.length
    rw [F.len _ _ _ _ hq] at e
    exact e.symm
  have b := hb _ (Value.ref (s.heap.objs.size + 1) :: us) I2.kIn (by rw [List.append_nil]; exact hl)
  rw [List.append_nil] at b
  refine wpAny_call (make_map (f := f) I.kIn M.makes M.init (beq_iff_eq.mp M.fn) (codeAny_mono (F.run _ X.stack _ _ ⟨Value.ref (s.heap.objs.size + 1) :: us, []⟩ (Value.ref (s.heap.objs.size + 1) :: us) _ _ E (hr.make C us [])
    (I2.env0.make C us []) b r2 hq) fun r s' hq' => ?_))
  cases r with
  | error e => exact hx pins _ _ e s' I2 hq'
  | ok fl =>
    cases fl with
    | ret u =>
      obtain ⟨v, H', I3, rv, ev, q3⟩ := I2.after hq'
      subst ev
      exact ⟨rv, ⟨V.ref (s.heap.objs.size + 1), H', I3, rfl, q3⟩⟩
    | next => exact False.elim hq'
    | brk => exact False.elim hq'
    | cont => exact False.elim hq'
theorem pe_makeS (M : Mk X.K C f) (F : FnOk X.prog X.w X.K X.mg X.base CX k f fd ps sp) (hr : Room (k + 1) X.A) (hg : Gl X x) (hm : X.mg x = some (.ref C)) (hb : Binds X.K fd ps []) (hx : ∀ σ, PassesAt CX X σ (E σ))
    (ha : PA X (e :: es) ta) (hdb : (x == ("__debug__" : Str)) = false := by decide) (he : starEach (e :: es) X.env = (false, eval e X.env) :: starEach es X.env := by rfl) (hpl : (backTo pos (starEach es X.env)).any (·.1) = false := by rfl) :
    PE X (.Call (.Name x p) (e :: es) [] pos) (tMakeS C sp E ta) := by
  refine ⟨fun pins s σ H Q I h => ?_⟩
  refine wpAny_Call_Name_kw (ld_glob I hg hm ?_ hdb)
  refine PySem.W.callWith_K (h₀ := X.base) I.ok.mod.kin M.kp (thn (ha.run pos pins s σ H _ I h) fun us s1 ⟨vs, H1, I1, r, q⟩ => ⟨I1.kIn, ?_⟩) he hpl
  exact run_makeS M F hr hb (hx σ) I1 r q
end
structure ClsOk (P : Program) (w : World) (K : PySem.W.Frag) (mg : Str → Option Value) (base : Heap) (k : Nat) (c : Str) (ps : List Str) (g : MF) : Prop where
  ex : ∃ C f fd, mg c = some (.ref C) ∧ Mk K C f ∧ Binds K fd ps [] ∧ FnOk P w K mg base (L2.CX P w) k f fd ps (spM K mg ps.length g)
theorem ClsOk.mono {P : Program} {w : World} {K : PySem.W.Frag} {mg : Str → Option Value} {base : Heap} {j k : Nat} {x : Str} {ps : List Str} {g : MF} (h : ClsOk P w K mg base j x ps g) (hk : j ≤ k) : ClsOk P w K mg base k x ps g := by
  obtain ⟨C, f, fd, h1, h2, h3, h4⟩ := h.ex
  exact ⟨⟨C, f, fd, h1, h2, h3, h4.mono hk⟩⟩
theorem ClsOk.imp {P : Program} {w : World} {K : PySem.W.Frag} {mg : Str → Option Value} {base : Heap} {k : Nat} {x : Str} {ps : List Str} {g g' : MF} (h : ClsOk P w K mg base k x ps g) (i : ∀ l st r, g' l st = some r → g l st = some r) : ClsOk P w K mg base k x ps g' := by
  obtain ⟨C, f, fd, h1, h2, h3, h4⟩ := h.ex
  exact ⟨⟨C, f, fd, h1, h2, h3, h4.imp (spM_imp i)⟩⟩
def makeM (cell : Bool) (c : Str) (n : Nat) (g : MF) (l : List IV) : M IV := fun st => if l.length + 1 = n then (match g (.cell st.length :: l) (st ++ [.ins c []]) with
  | some (.val .non, st') => if st'.length = st.length + 1 then (match cell with
    | true => some (.val (.cell st.length), st')
    | false => (match st'[st.length]? with
      | some (.ins c' fs) => some (.val (.obj c' fs), st'.take st.length)
      | _ => none)) else none
  | some (.exc c' f v, st') => if v.pure = true then some (.exc c' f v, st'.take st.length) else none
  | _ => none) else none
def mMake (cell : Bool) (c : Str) (n : Nat) (g : MF) (a : MA) : ME := fun ls => M.bind (a ls) (makeM cell c n g)
section
variable {X : Cx} {W : WX} {e : Expr} {es : List Expr} {ga : MA} {k : Nat} {c : Str} {ps : List Str} {g : MF} {p pos : Pos}
theorem e_make (cell : Bool) (F : ClsOk X.prog X.w X.K X.mg X.base k c ps g) (hr : Room (k + 1) X.A) (hg : Gl X c) (tk : Takes X W) (ha : PA' X W (e :: es) ga) (hdb : (c == ("__debug__" : Str)) = false := by decide)
    (he : starEach (e :: es) X.env = (false, eval e X.env) :: starEach es X.env := by rfl) (hpl : (backTo pos (starEach es X.env)).any (·.1) = false := by rfl) : PE' X W (.Call (.Name c p) (e :: es) [] pos) (mMake cell c ps.length g ga) := by
  obtain ⟨C, f, fd, h1, h2, h3, h4⟩ := F.ex
  refine PE_imp (pe_makeS h2 h4 hr hg h1 h3 (fun σ => passAt tk σ) ha hdb he hpl) fun σ H Q h => rdA_mono (rdA1 h) fun xs H1 hh => ?_
  obtain ⟨cm, st, l, r, st', s, hx, e, o⟩ := hh
  intro x dx nx ndx ne
  have nxd : (upd H1 dx (.own x)) x = none := by rw [upd_ne (Ne.symm ne)]; exact nx
  have E1 : Ext cm H1 cm (upd H1 dx (.own x)) := Ext.new' ndx
  have s1 := s.new (o := .own x) ndx
  have E2 : Ext cm (upd H1 dx (.own x)) (cm.push x) (upd (upd H1 dx (.own x)) x (.ins C dx [])) := Ext.push nxd
  have s2 : RelS X.K X.mg (cm.push x) (st ++ [.ins c []]) (upd (upd H1 dx (.own x)) x (.ins C dx [])) := s1.push nxd E2 (fun a m => upd_ne fun z => s1.notCell nxd (z ▸ m)) ⟨_, upd_same⟩ ⟨C, dx, [], h1, upd_same, .nil, rfl⟩
  have E12 := E1.trans E2
  unfold makeM at e
  split at e
  · rename_i hl
    have hcell : (cm.push x).cm[st.length]? = some x := by
      show (cm.cm ++ [x])[st.length]? = some x
      rw [← s.len, List.getElem?_append_right (Nat.le_refl _)]; simp
    cases q : g (.cell st.length :: l) (st ++ [.ins c []]) with
    | none => rw [q] at e; cases e
    | some pr =>
      obtain ⟨r1, st1⟩ := pr
      rw [q] at e
      refine ⟨by rw [List.length_cons, hx.length]; exact hl, cm.push x, _, _, r1, st1, s2, .cons (.cell hcell) (hx.ext E12), q, ?_⟩
      cases r1 with
      | exc c' f' v =>
        intro cm3 H3 x3 s3 C' d y hm hxf hd hav hy
        simp only at e
        split at e
        · cases e
          have E3 := E12.trans x3
          obtain ⟨s4, E4⟩ := relS_cut s E3 s3
          exact o cm H3 E4 s4 C' d y hm hxf hd (fun m => hav (E3.keep d m)) (hy.cut (cut_of E3) (by assumption))
        · cases e
      | val v =>
        intro cm3 H3 x3 s3 y hy
        cases v with
        | non =>
          cases hy
          refine ⟨rfl, ?_⟩
          have E3 := E12.trans x3
          simp only at e
          split at e
          · cases cell with
            | true =>
              cases e
              exact o cm3 H3 E3 s3 _ (.cell (x3.at hcell))
            | false =>
              simp only at e
              split at e
              · rename_i c' fs q2
                cases e
                obtain ⟨s4, E4⟩ := relS_cut s E3 s3
                have hc3 := x3.at hcell
                obtain ⟨C', dx', fs', q0, q1, q3, q4⟩ := s3.at' _ _ _ hc3 q2
                exact o cm H3 E4 s4 _ (.obj q0 q1 (s.notAv nx) (q3.cut (cut_of E3) q4))
              · cases e
          · cases e
        | _ => cases e
  · cases e
end
def putFM (c f : Str) (o v : IV) : M Unit := fun st => match o with
  | .cell n => (match st[n]? with
    | some (.ins c' fs) => if c' = c ∧ v.pure = true ∧ fs.length < 1000 then some (.val (), st.set n (.ins c (putI f v fs))) else none
    | _ => none)
  | _ => none
def mPutF (c f : Str) (o m : ME) : MS := liftS (fun ls => M.bind (m ls) fun v => M.bind (o ls) fun a => putFM c f a v) fun _ ls => M.ret (.nx ls)
theorem pureF_put : ∀ {fs : List (Str × IV)} {f : Str} {v : IV}, pureF fs = true → v.pure = true → pureF (putI f v fs) = true
  | [], f, v, _, h => by simp [putI, pureF, h]
  | (g, w) :: r, f, v, h, h' => by
    simp only [pureF, Bool.and_eq_true] at h
    unfold putI
    split
    · simp only [pureF, Bool.and_eq_true]; exact ⟨h', h.2⟩
    · simp only [pureF, Bool.and_eq_true]; exact ⟨h.1, pureF_put h.2 h'⟩
theorem RepF.put {K : PySem.W.Frag} {mg : Str → Option Value} {cm : Wd} {H : Hp} {x : V} {v : IV} {f : Str} (hx : Rep K mg cm H x v) : ∀ {xs : List (Str × V)} {fs : List (Str × IV)}, RepF K mg cm H xs fs → RepF K mg cm H (putF f x xs) (putI f v fs)
  | _, _, .nil => .cons hx .nil
  | _, _, .cons (f := g) h r => by
    unfold putF putI
    split
    · exact .cons hx r
    · exact .cons h (RepF.put hx r)
section
variable {X : Cx} {W : WX} {e ob : Expr} {fo fa : ME} {c f : Str} {p pos : Pos}
theorem s_fld (c : Str) (ho : PE' X W ob fo) (he : PE' X W e fa) (hf : FldOk X.K X.mg c f) (hs : swapsWith e (some (.Attribute ob f p)) pos.line X.env = pure false := by rfl) : PS' X W (.Assign [.Attribute ob f p] e pos) (mPutF c f fo fa) := by
  refine PS_imp (ps_fld ho he hs) fun D σ H h => ?_
  obtain ⟨cm, ls, st, r, st', R, e, o⟩ := rd_lift h
  rcases M.bind_inv e with ⟨v, st1, e1, e2⟩ | ⟨c, f, v, e1, rfl⟩
  · refine ⟨cm, ls, st, _, st1, R, e1, fun cm1 H1 x1 s1 y hy => ?_⟩
    rcases M.bind_inv e2 with ⟨a, st2, e3, e4⟩ | ⟨c, f, v, e3, rfl⟩
    · refine ⟨cm1, ls, st1, _, st2, R.ext x1 s1, e3, fun cm2 H2 x2 s2 z hz => ?_⟩
      unfold putFM at e4
      split at e4
      · rename_i n
        split at e4
        · rename_i c' fs q
          split at e4
          · rename_i hc
            obtain ⟨rfl, hp, hlen⟩ := hc
            cases e4
            cases hz with
            | @cell p _ hn =>
              obtain ⟨C, dx, fs', hm, g1, g2, g3⟩ := s2.at' n p _ hn q
              have hy2 := hy.ext x2
              have E : Ext cm2 H2 cm2 (upd H2 p (.ins C dx (putF f y fs'))) := Ext.set (List.mem_of_getElem? hn)
              have s3 := s2.set hn (o := .ins C dx (putF f y fs')) (c := .ins c' (putI f v fs)) ⟨C, dx, _, hm, upd_same, (RepF.put hy2 g2).ext E, pureF_put g3 hp⟩
              obtain ⟨fl, st5, e7, o7⟩ := o cm2 _ ((x1.trans x2).trans E) s3
              cases e7
              exact ⟨p, C, dx, fs', rfl, g1, (hf C hm).1, (hf C hm).2, by rw [g2.length]; exact hlen, o7 cm2 _ (Ext.refl _ _) s3 σ ((R.ext x1 s1).ext (x2.trans E) s3).loc⟩
          · cases e4
        · cases e4
      · cases e4
    · exact ⟨cm1, ls, st1, _, st', R.ext x1 s1, e3, fun cm2 H2 x2 s2 => o cm2 H2 (x1.trans x2) s2⟩
  · exact ⟨cm, ls, st, _, st', R, e1, o⟩
end
def mRaise (c f : Str) (m : ME) : MS := liftS m fun v ls => M.ret (.ex ls c f v)
def spX (K : PySem.W.Frag) (f : Str) : Sp := fun vs H Q _ => ∃ (a C : Addr) (y : V), vs = [.ref a, y] ∧ OexC K C ∧ PySem.W.findIn K (.ref C) f = some none ∧ H a = some (exo a C none) ∧ ∀ dx, H dx = none → dx ≠ a → Q .non (upd (upd H dx (exd dx [(f, y)])) a (exo a C (some dx)))
structure ExcOk (P : Program) (w : World) (K : PySem.W.Frag) (mg : Str → Option Value) (base : Heap) (c f : Str) : Prop where
  ex : ∃ C fI fd ps, mg c = some (.ref C) ∧ OexC K C ∧ PySem.W.findIn K (.ref C) f = some none ∧ PySem.W.findIn K (.ref C) "__init__" = some (some (.ref fI)) ∧ PySem.W.typeIn K (.ref fI) = some (.type "function") ∧ XF K C f ∧ Binds K fd ps [] ∧ FnOk P w K mg base (L2.CX P w) 1 fI fd ps (spX K f)
section
variable {X : Cx} {W : WX} {e : Expr} {fa : ME} {c f : Str} {p p2 pos : Pos}
theorem s_raise (F : ExcOk X.prog X.w X.K X.mg X.base c f) (hc : X.calm = true) (hr : Room 2 X.A) (hg : Gl X c) (tk : Takes X W) (ha : PE' X W e fa) (hdb : (c == ("__debug__" : Str)) = false := by decide)
    (hs : starEach [e] X.env = (false, eval e X.env) :: starEach [] X.env := by rfl) (hpl : (backTo pos (starEach [] X.env)).any (·.1) = false := by rfl) : PS' X W (.Raise (some (.Call (.Name c p) [e] [] pos)) none p2) (mRaise c f fa) := by
  obtain ⟨C, fI, fd, ps, h1, h2, h3, h4, h5, h8, h6, h7⟩ := F.ex
  refine PS_imp (ps_raise hc tk (pmk_oex h2 h4 h5 h7 hr h6 .nil passL hg h1 (pa_cons ha pa_nil hs) hdb hs hpl)) fun D σ H h => rdE_mono (rd_liftE h) fun x H1 hh => ?_
  obtain ⟨cm, ls, st, v, fl, st2, R, hx, e, o⟩ := hh
  cases e
  refine ⟨by show 1 ≤ 1000; decide, fun a ha => ?_⟩
  refine ⟨a, C, x, rfl, h2, h3, upd_same, fun dx hdx hne => ⟨rfl, dx, [(f, x)], upd_same, ?_, ?_, ?_⟩⟩
  · rw [upd_ne hne, upd_same]
  · rw [upd_ne hne] at hdx; exact hdx
  · rw [upd_ne hne] at hdx
    have eH : upd (del (upd (upd (upd H1 a (exo a C none)) dx (exd dx [(f, x)])) a (exo a C (some dx))) a) dx (.xd [(f, x)]) = upd H1 dx (.xd [(f, x)]) := by
      funext b
      by_cases hb : b = dx
      · subst hb; rw [upd_same, upd_same]
      · rw [upd_ne hb, upd_ne hb]
        by_cases hba : b = a
        · subst hba; rw [del_same]; exact ha.symm
        · rw [del_ne hba, upd_ne hba, upd_ne hb, upd_ne hba]
    rw [eH]
    exact o cm _ (Ext.new' hdx) (R.sto.new hdx) σ (R.loc.ext (Ext.new' hdx)) C dx x h1 h8 upd_same (R.sto.notAv hdx) (hx.ext (Ext.new' hdx))
end
end MK
section
set_option maxHeartbeats 2000000
namespace MK
open PySem PySem.Spec PyProof.Rows L2
def endsA (D : Ends) (i : Nat) : Ends := { nx := fun σ' H' => D.nx (σ'.set i none) H', rt := D.rt, bk := fun σ' H' => D.bk (σ'.set i none) H', ct := fun σ' H' => D.ct (σ'.set i none) H' }
abbrev ClA := Value × Nat × (Addr → Value → Option Addr → TS)
def wManyA (K : PySem.W.Frag) (Wout : WX) (D : Ends) : List ClA → WX
  | [] => Wout
  | (c, i, ts) :: r => fun cls d σ H => ∃ b, PySem.W.exmOne K cls c = some b ∧ (b = true → ∀ a, H a = none → ts a cls d (endsA D i) (σ.set i (some (.ref a))) H) ∧ (b = false → wManyA K Wout D r cls d σ H)
inductive HdsA (X : Cx) : List ExceptHandler → List ClA → Prop
  | nil : HdsA X [] []
  | cons {x n : Str} {c : Value} {i : Nat} {ts : Addr → Value → Option Addr → TS} {b₀ : Stmt} {suite : List Stmt} {np pos' : Pos} {hds : List ExceptHandler} {l : List ClA} (hi : X.N[i]? = some n) (hln : X.env.kindOf n = some .local) (hc : Names X x c)
      (hsu : ∀ (a : Addr) (oe : Obj) (cls : Value) (d : Option Addr) (pn : List (Addr × Obj)), Zc cls d oe → (∃ vs, oe.data = .fields vs) → PSs (X.suite a ((a, oe) :: pn)) (b₀ :: suite) (ts a cls d)) (r : HdsA X hds l) :
      HdsA X (.ExceptHandler (some (.Name x np)) (some n) (b₀ :: suite) pos' :: hds) ((c, i, ts) :: l)
section
variable {X : Cx} {body : List Stmt} {h₀ : ExceptHandler} {hds : List ExceptHandler} {l : List ClA} {pos : Pos} {tb : WX → TS} {Wout : WX}
theorem ps_try_manyA (hs : X.stack = X.env :: X.outer) (hf : X.env.frame = some X.env.locals) (hN : X.N.Nodup) (tk : Takes X Wout)
    (hb : ∀ (W : WX) (pn : List (Addr × Obj)) (xe : Value → Shared → Prop), Takes (X.tr pn xe) W → PassesOwn (model X.prog X.w) X.A X.env xe → PSs (X.tr pn xe) body (tb W))
    (hh : HdsA X (h₀ :: hds) l) : PS X (.Try body (h₀ :: hds) [] [] pos) (fun D σ H => tb (wManyA X.K Wout D l) D σ H) := by
  refine ⟨fun pins s σ H D I h => ?_⟩
  have ok := I.ok
  have hfr : X.A.frames = some (X.env :: X.outer) := by rw [ok.frames, hs]
  refine wpAny_Try_except ?_
  refine wpAny_mono ((hb (wManyA X.K Wout D l) (X.pn ++ pins) (fun e s₁ => wpAny (model X.prog X.w) X.A (noteFrame e X.env) (fun _ s₂ => wpAny (model X.prog X.w) X.A (setFlight e none) (fun _ s₃ =>
    wpAny (model X.prog X.w) X.A (handleBy e X.env (h₀ :: hds)) (SP X pins D) X.xe s₃) X.xe s₂) X.xe s₁) (fun u s' xx => ?_) PassesOwn.looking).run [] s σ H D (I.toTry _) h) (fun f s1 hsp => ?_) (fun e s1 he => he)
  · -- the catch
    obtain ⟨a, B, sI, pins', σ', H', cls, d, rfl, J', nb, up, sky, na, os, ag, w⟩ := xx
    have J : Inv X pins σ' H' sI := J'.ofTry ok
    have sky' : Sky B (X.env :: X.outer) a (Zc cls d) X.env.locals s'.heap := by rw [← hs]; exact sky
    show wpAny (model X.prog X.w) X.A (noteFrame (.ref a) X.env) _ _ _
    refine Sky.land Zc.steady hfr hf sky' fun h3 fl3 up3 => ?_
    have J3 : Inv X pins σ' H' { s' with heap := h3 } := J.landed nb fl3.1 (up.trans up3) os ag
    obtain ⟨oe3, vs3, he3, hz3, hd3⟩ := fl3.there
    have notFr : ∀ {h : Heap} {o : Obj} {vs : Array Value}, h.FunFrames B (X.env :: X.outer) → h.get? a = some o → o.data = .fields vs → a ∉ frs (X.env :: X.outer) := fun {h o vs} ff e dd hm => by
      obtain ⟨_, o', e', hnf⟩ := ff.mem hm
      rw [e] at e'; cases e'
      exact hnf _ dd
    have nfr := notFr fl3.2.2.1 he3 hd3
    have nL : a ≠ X.env.locals := fun z => nfr (List.mem_filterMap.mpr ⟨X.env, List.mem_cons_self, by rw [hf, z]⟩)
    have nF : a ∉ X.fs := fun hm => by
      obtain ⟨e, he, q⟩ := List.mem_filterMap.mp hm
      exact nfr (List.mem_filterMap.mpr ⟨e, List.mem_cons_of_mem _ he, q⟩)
    have S3 := J3.suite he3 hd3 na nL nF
    have go : ∀ {hds' : List ExceptHandler} {l' : List ClA}, HdsA X hds' l' → wManyA X.K Wout D l' cls d σ' H' →
        wpAny (model X.prog X.w) X.A (handleBy (.ref a) X.env hds') (SP X pins D) X.xe { s' with heap := h3 } := by
      intro hds' l' hk
      induction hk with
      | nil =>
        intro w
        refine wpAny_handleBy_nil ?_
        obtain ⟨k1, k2, k3, oe, vs, T, oT, ts', he, hz, hd, h1, hr⟩ := id fl3
        unfold PySem.passOn
        refine wpAny_bind (wpAny_field he hd h1 ?_)
        rw [if_neg (show ¬ ((Value.ref T == Value.none) = true) from by simp)]
        have fin : wpAny (model X.prog X.w) X.A (setFlight (.ref a) X.env.frame) (fun _ s4 => wpAny (model X.prog X.w) X.A (throw (.ref a) : Sem Flow) (SP X pins D) X.xe s4) X.xe { s' with heap := h3 } := by
          rw [hf]
          refine HandSPX.setFlight_upZ fl3 fun h4 hh4 up4 => wpAny_throw (tk _ _ ?_)
          exact ⟨a, B, sI, pins, σ', H', cls, d, rfl, J, nb, (up.trans up3).trans up4, .inr (.inr (by rw [hs]; exact hh4)), na, os, ag, w⟩
        first
          | exact wpAny_bind (wpAny_pure (wpAny_bind fin))
          | exact wpAny_bind fin
      | @cons x n c i ts b₀ suite np pos' hds2 l2 hi hln hc hsu r ih =>
        intro w
        have hloc : L2.Loc X.env.scope n := .inl hln
        obtain ⟨b, hb1, hyes, hno⟩ := w
        refine wpAny_handleBy_cons (codeAny_handlers_test ?_) (by intro q; cases q)
        have LT : PySem.W.Looks (model X.prog X.w) h3 (typeOf (.ref a)) cls := fun A Q E s k q => wpAny_typeOf_ref (k _ _ he3) (by rw [hz3.1]; exact q)
        have LM := PySem.W.exm_one (M := model X.prog X.w) (J3.kIn) LT hb1
        have test : ∀ {Q : Value → Shared → Prop} {E : Value → Shared → Prop}, Q c { s' with heap := h3 } → wpAny (model X.prog X.w) (X.A.mark (some (.ref a))) (eval (.Name x np) X.env) Q E { s' with heap := h3 } := fun {Q E} q => by
          obtain ⟨hg, hdbg, hm | ⟨hm, hv, hnn⟩⟩ := hc
          · exact ld_glob (X := X.suite a ((a, oe3) :: (X.pn ++ pins))) S3 hg hm q hdbg
          · exact ld_blt (X := X.suite a ((a, oe3) :: (X.pn ++ pins))) S3 hg hm hv q hnn hdbg
        refine test (LM.here ?_)
        cases b with
        | true =>
          refine codeAny_handlers_suite_as ?_
          refine HandSPX.lands_againZ fl3 fun h4 fl4 up4 => ?_
          have J4 : Inv X pins σ' H' { s' with heap := h4 } := J.landed nb fl4.1 ((up.trans up3).trans up4) os ag
          obtain ⟨oe4, vs4, he4, hz4, hd4⟩ := fl4.there
          have S4 := J4.suite he4 hd4 na nL nF
          refine store_ok (X := X.suite a ((a, oe4) :: (X.pn ++ pins))) (v := .ref a) S4 hN hi hloc rfl (fun s5 S5 => ?_) (.inr hln)
          refine wpAny_mono ((hsu a oe4 cls d (X.pn ++ pins) hz4 ⟨_, hd4⟩).run [] s5 _ H' _ S5 (hyes rfl a na)) (fun f s6 hsp => ?_) (fun _ _ z => False.elim z)
          have end_ : ∀ {σ6 : L2.St} {H6 : Hp} {Q : Shared → Prop}, Inv (X.suite a ((a, oe4) :: (X.pn ++ pins))) [] σ6 H6 s6 → (∀ s7, Inv X pins (σ6.set i none) H6 s7 → Q s7) →
              wpAny (model X.prog X.w) X.A (do bindName X.env n .none; unbindBehindTheSuite X.env n pos') (fun _ s7 => Q s7) X.xe s6 := fun {σ6 H6 Q} S6 hq => gone_ok (S6.unsuite ok) hN hi hln hq
          cases f with
          | next =>
            obtain ⟨σ6, H6, S6, q6⟩ := hsp
            exact end_ S6 fun s7 J7 => ⟨_, _, J7, q6⟩
          | brk =>
            obtain ⟨σ6, H6, S6, q6⟩ := hsp
            exact end_ S6 fun s7 J7 => ⟨_, _, J7, q6⟩
          | cont =>
            obtain ⟨σ6, H6, S6, q6⟩ := hsp
            exact end_ S6 fun s7 J7 => ⟨_, _, J7, q6⟩
          | ret u =>
            obtain ⟨v6, σ6, H6, S6, r6, q6⟩ := hsp
            exact end_ S6 fun s7 J7 => ⟨_, _, _, J7, r6, q6⟩
        | false =>
          show wpAny _ X.A (handleBy (.ref a) X.env hds2) _ _ _
          exact ih (hno rfl)
    exact go hh w
  · cases f with
    | next =>
      obtain ⟨σ', H', J', q⟩ := hsp
      exact wpAny_execs_nil ⟨σ', H', J'.ofTry ok, q⟩
    | brk =>
      obtain ⟨σ', H', J', q⟩ := hsp
      exact ⟨σ', H', J'.ofTry ok, q⟩
    | cont =>
      obtain ⟨σ', H', J', q⟩ := hsp
      exact ⟨σ', H', J'.ofTry ok, q⟩
    | ret u =>
      obtain ⟨v, σ', H', J', r, q⟩ := hsp
      exact ⟨v, σ', H', J'.ofTry ok, r, q⟩
end
end MK
end
namespace MK
open PySem PySem.Spec PyProof.Rows L2
abbrev Su := Addr → Value → Option Addr → MS
open Classical in
noncomputable def runCl (i : Nat) (fsu : Su) (ls : Loc) (c f : Str) (v : IV) : M Fl := fun st =>
  if h : ∃ r, ∀ (a : Addr) (C d : Addr), fsu a (.ref C) (some d) (ls.set i (some (.exn a (.ref C) d f v c))) st = some r then some h.choose else none
theorem runCl_eq {i : Nat} {fsu : Su} {ls : Loc} {c f : Str} {v : IV} {st : Sto} {r : OX Fl × Sto} (h : ∀ (a : Addr) (C d : Addr), fsu a (.ref C) (some d) (ls.set i (some (.exn a (.ref C) d f v c))) st = some r) : runCl i fsu ls c f v st = some r := by
  unfold runCl
  have hx : ∃ r, ∀ (a : Addr) (C d : Addr), fsu a (.ref C) (some d) (ls.set i (some (.exn a (.ref C) d f v c))) st = some r := ⟨r, h⟩
  rw [dif_pos hx]
  have q := hx.choose_spec 0 0 0
  rw [h 0 0 0] at q
  exact q.symm
theorem runCl_inv {i : Nat} {fsu : Su} {ls : Loc} {c f : Str} {v : IV} {st : Sto} {r : OX Fl × Sto} (e : runCl i fsu ls c f v st = some r) : ∀ (a : Addr) (C d : Addr), fsu a (.ref C) (some d) (ls.set i (some (.exn a (.ref C) d f v c))) st = some r := by
  unfold runCl at e
  split at e
  · rename_i h
    cases e
    exact h.choose_spec
  · cases e
abbrev Cl := Str × Nat × Su
noncomputable def tryCl (sub : Str → Str → Option Bool) : List Cl → Loc → Str → Str → IV → M Fl
  | [], ls, c, f, v => M.ret (.ex ls c f v)
  | (x, i, fsu) :: r, ls, c, f, v => match sub c x with
    | some true => M.bind (runCl i fsu ls c f v) fun fl => match fl with
      | .nx ls' => M.ret (.nx (ls'.set i none))
      | .bk ls' => M.ret (.bk (ls'.set i none))
      | .ct ls' => M.ret (.ct (ls'.set i none))
      | .rt w => M.ret (.rt w)
      | .ex .. => M.stuck
    | some false => tryCl sub r ls c f v
    | none => M.stuck
noncomputable def mTry (sub : Str → Str → Option Bool) (body : MS) (cl : List Cl) : MS := fun ls => M.bind (body ls) fun fl => match fl with
  | .ex ls' c f v => tryCl sub cl ls' c f v
  | fl => M.ret fl
def SubOk (K : PySem.W.Frag) (mg : Str → Option Value) (sub : Str → Str → Option Bool) : Prop := ∀ c x b C Cx, sub c x = some b → mg c = some (.ref C) → mg x = some (.ref Cx) → PySem.W.exmOne K (.ref C) (.ref Cx) = some b
inductive HdsM (X : Cx) : List ExceptHandler → List Cl → Prop
  | nil : HdsM X [] []
  | cons {x n : Str} {i : Nat} {fsu : Su} {b₀ : Stmt} {suite : List Stmt} {np pos' : Pos} {hds : List ExceptHandler} {l : List Cl} (hi : X.N[i]? = some n) (hln : X.env.kindOf n = some .local) (hg : Gl X x) (hd : (x == ("__debug__" : Str)) = false) (hm : ∃ C, X.mg x = some (.ref C))
      (hsu : ∀ (a : Addr) (oe : Obj) (cls : Value) (d : Option Addr) (pn : List (Addr × Obj)), Zc cls d oe → (∃ vs, oe.data = .fields vs) → PSs' (X.suite a ((a, oe) :: pn)) W0 (b₀ :: suite) (fsu a cls d)) (r : HdsM X hds l) :
      HdsM X (.ExceptHandler (some (.Name x np)) (some n) (b₀ :: suite) pos' :: hds) ((x, i, fsu) :: l)
theorem RelC.unset {K : PySem.W.Frag} {mg : Str → Option Value} {cm : Wd} {ls : Loc} {σ : L2.St} {H : Hp} (h : RelC K mg cm ls σ H) (i : Nat) : RelC K mg cm (ls.set i none) (σ.set i none) H := ⟨by simp [h.len], fun j w e => by
  by_cases hi : i = j
  · subst hi
    by_cases hl : i < ls.length
    · rw [List.getElem?_set_self hl] at e; cases e
    · rw [List.getElem?_eq_none (by simpa using hl)] at e; cases e
  · rw [List.getElem?_set_ne hi] at e ⊢
    exact h.at' j w e⟩
section
variable {X : Cx} {W : WX} {body : List Stmt} {h₀ : ExceptHandler} {hds : List ExceptHandler} {cl : List Cl} {pos : Pos} {fb : MS} {sub : Str → Str → Option Bool}
def clA (K : PySem.W.Frag) (mg : Str → Option Value) (c : Value) (q : Cl) : ClA := (c, q.2.1, fun a cls d => rdS K mg W0 (q.2.2 a cls d))
theorem hds_of : ∀ {hds : List ExceptHandler} {cl : List Cl}, HdsM X hds cl → ∃ l : List ClA, HdsA X hds l ∧ Paired (fun q p => ∃ C, X.mg q.1 = some (.ref C) ∧ p = clA X.K X.mg (.ref C) q) cl l
  | _, _, .nil => ⟨[], .nil, .nil⟩
  | _, _, .cons hi hln hg hd ⟨C, hm⟩ hsu r => by
    obtain ⟨l, h1, h2⟩ := hds_of r
    exact ⟨_, .cons (c := .ref C) hi hln ⟨hg, hd, .inl hm⟩ hsu h1, .cons ⟨C, hm, rfl⟩ h2⟩
theorem try_w {K : PySem.W.Frag} {mg : Str → Option Value} (hsub : SubOk K mg sub) {D : Ends} {cm : Wd} {H : Hp} {σ : L2.St} {ls : Loc} {st st' : Sto} {c f : Str} {v : IV} {fl : Fl} {C d : Addr} {y : V} (s : RelS K mg cm st H) (R : RelC K mg cm ls σ H)
    (hm : mg c = some (.ref C)) (hxf : XF K C f) (hd : H d = some (.xd [(f, y)])) (hav : d ∉ cm.av) (hy : Rep K mg cm H y v) :
    ∀ {cl : List Cl} {l : List ClA}, Paired (fun q p => ∃ C, mg q.1 = some (.ref C) ∧ p = clA K mg (.ref C) q) cl l → tryCl sub cl ls c f v st = some (.val fl, st') → OutS K mg W D cm H fl st' → wManyA K W D l (.ref C) (some d) σ H
  | _, _, .nil, e, o => by
    cases e
    exact o cm H (Ext.refl _ _) s σ R C d y hm hxf hd hav hy
  | (x, i, fsu) :: cl, _, .cons ⟨Cx, hx, hp⟩ r, e, o => by
    subst hp
    simp only [tryCl] at e
    cases q : sub c x with
    | none => rw [q] at e; cases e
    | some b =>
      rw [q] at e
      refine ⟨b, hsub c x b C Cx q hm hx, fun hb a ha => ?_, fun hb => ?_⟩
      · subst hb
        simp only at e
        rcases M.bind_inv e with ⟨fl1, st1, e1, e2⟩ | ⟨c', f', v', e1, q1⟩
        · have e1' := runCl_inv e1 a C d
          refine ⟨cm, _, st, fl1, st1, ⟨s, R.set i (.exn hm hxf hd hav hy)⟩, e1', fun cm1 H1 x1 s1 => ?_⟩
          cases fl1 with
          | nx ls1 => cases e2; exact fun σ1 R1 => o cm1 H1 x1 s1 _ (R1.unset i)
          | bk ls1 => cases e2; exact fun σ1 R1 => o cm1 H1 x1 s1 _ (R1.unset i)
          | ct ls1 => cases e2; exact fun σ1 R1 => o cm1 H1 x1 s1 _ (R1.unset i)
          | rt w => cases e2; exact fun x hx => o cm1 H1 x1 s1 x hx
          | ex ls1 c f v => cases e2
        · cases q1
      · subst hb
        exact try_w hsub s R hm hxf hd hav hy r e o
theorem s_try (hs : X.stack = X.env :: X.outer) (hf : X.env.frame = some X.env.locals) (hN : X.N.Nodup) (tk : Takes X W) (hsub : SubOk X.K X.mg sub)
    (hb : ∀ (W : WX) (pn : List (Addr × Obj)) (xe : Value → Shared → Prop), Takes (X.tr pn xe) W → PassesOwn (model X.prog X.w) X.A X.env xe → PSs' (X.tr pn xe) W body fb) (hh : HdsM X (h₀ :: hds) cl) : PS' X W (.Try body (h₀ :: hds) [] [] pos) (mTry sub fb cl) := by
  obtain ⟨l, h1, h2⟩ := hds_of hh
  refine PS_imp (ps_try_manyA (tb := fun W => rdS X.K X.mg W fb) hs hf hN tk hb h1) fun D σ H h => ?_
  obtain ⟨cm, ls, st, fl, st', R, e, o⟩ := h
  rcases M.bind_inv e with ⟨fl1, st1, e1, e2⟩ | ⟨c, f, v, e1, q⟩
  · refine ⟨cm, ls, st, fl1, st1, R, e1, fun cm1 H1 x1 s1 => ?_⟩
    cases fl1 with
    | nx ls1 => cases e2; exact o cm1 H1 x1 s1
    | bk ls1 => cases e2; exact o cm1 H1 x1 s1
    | ct ls1 => cases e2; exact o cm1 H1 x1 s1
    | rt v => cases e2; exact o cm1 H1 x1 s1
    | ex ls1 c f v => exact fun σ1 R1 C d y hm hxf hd hav hy => try_w hsub s1 R1 hm hxf hd hav hy h2 e2 fun cm2 H2 x2 s2 => o cm2 H2 (x1.trans x2) s2
  · cases q
end
open Classical in
noncomputable def xfM (a : Addr) (cls : Value) (d : Option Addr) (f : Str) (x : IV) : M IV := match x with
  | .exn a' cls' d' f' v _ => if a' = a ∧ cls' = cls ∧ some d' = d ∧ f' = f ∧ ∃ C, cls = .ref C then M.ret v else M.stuck
  | _ => M.stuck
noncomputable def mXf (a : Addr) (cls : Value) (d : Option Addr) (f : Str) (m : ME) : ME := fun ls => M.bind (m ls) (xfM a cls d f)
theorem xfM_run (a C : Addr) (d : Addr) (c f : Str) (v : IV) : xfM a (.ref C) (some d) f (.exn a (.ref C) d f v c) = M.ret v := by
  unfold xfM
  exact if_pos ⟨rfl, rfl, rfl, rfl, C, rfl⟩
section
variable {X : Cx} {W : WX} {a C : Addr} {oe : Obj} {d : Option Addr} {pn : List (Addr × Obj)} {e : Expr} {m : ME} {pos : Pos} {f : Str} {cls : Value}
def tXfA (K : PySem.W.Frag) (a : Addr) (cls : Value) (d : Option Addr) (f : Str) (te : TE) : TE := fun σ H Q => te σ H fun x H1 => x = .ref a ∧ ∃ (C dd : Addr) (fs : List (Str × V)) (v : V), cls = .ref C ∧ XF K C f ∧ d = some dd ∧ H1 dd = some (.xd fs) ∧ fs.lookup f = some v ∧ Q v H1
theorem pe_xfA (hz : Zc cls d oe) (hf : ∃ vs, oe.data = .fields vs) {te : TE} (he : PE (X.suite a ((a, oe) :: pn)) e te) (hb : attributeBase e f X.env (eval e X.env) = eval e X.env := by rfl) :
    PE (X.suite a ((a, oe) :: pn)) (.Attribute e f pos) (tXfA X.K a cls d f te) := by
  refine ⟨fun pins s σ H Q I h => ?_⟩
  refine attr_of hb (thn (he.run pins s σ H _ I h) fun u s1 hh => ?_)
  obtain ⟨x, H1, I1, rx, ex, C, dd, fs, v, ec, ⟨T, hno⟩, ed, ea, l, q⟩ := hh
  subst ex
  obtain rfl : u = Value.ref a := rx
  subst ec
  subst ed
  obtain ⟨ha, _⟩ := I1.pin (a, oe) (List.mem_append_left _ List.mem_cons_self)
  obtain ⟨vs, hd⟩ := hf
  have hx : ObjOk X.prog X.w H1 s1.heap dd (.xd fs) := I1.hok dd _ ea
  obtain ⟨mA, hns, hr⟩ := hx
  obtain ⟨od, ho, hl⟩ := lookIn_ns hns
  obtain ⟨u, hu, ru⟩ := RelO.some_of (v := v) (o := mA f) (by rw [← l]; exact hr f)
  have J : PySem.W.InstAt s1.heap a oe C (some od) := ⟨ha, hz.1, by unfold PySem.W.notCls; rw [hd] <;> rfl, by rw [hz.2]; exact ho⟩
  exact HandSPX.exc_get I1.kIn J T.ga T.gg T.exC (PySem.W.findObj_own T.hdC hno rfl (by rw [hl, hu])) (handed_of ru) ⟨v, H1, I1.tok _, ru, q⟩
theorem e_xf (hz : Zc cls d oe) (hf : ∃ vs, oe.data = .fields vs) (he : PE' (X.suite a ((a, oe) :: pn)) W e m) (hb : attributeBase e f X.env (eval e X.env) = eval e X.env := by rfl) :
    PE' (X.suite a ((a, oe) :: pn)) W (.Attribute e f pos) (mXf a cls d f m) := by
  refine PE_imp (pe_xfA hz hf he hb) fun σ H Q h => rdE_mono (rd1 h) fun x H1 h1 => ?_
  obtain ⟨cm, st, v, r, st', s, hx, e, o⟩ := h1
  unfold xfM at e
  split at e
  · split at e
    · rename_i hc
      obtain ⟨rfl, rfl, rfl, rfl, C', hC⟩ := hc
      cases e
      cases hx with
      | err => cases hC
      | rng => cases hC
      | exn g h0 h1 hn h2 =>
        refine ⟨rfl, _, _, _, _, rfl, h0, rfl, h1, by simp [List.lookup], o cm H1 (Ext.refl _ _) s _ h2⟩
    · cases e
  · cases e
end
end MK
namespace MK
open PySem L2
section
variable {K : PySem.W.Frag} {mg : Str → Option Value} {σ : L2.St} {H : Hp} {W : WX}
theorem rd2L {α : Type} {fa fb : ME} {k : Loc → IV → IV → M α} {G : Wd → Hp → α → Prop} (h : Run K mg W σ H (fun ls => M.bind (fa ls) fun a => M.bind (fb ls) fun b => k ls a b) G) :
    rdE K mg W fa σ H fun x H1 => rdE K mg W fb σ H1 fun y H2 => ∃ cm ls st a b r st', Rel K mg cm ls st σ H2 ∧ Rep K mg cm H2 x a ∧ Rep K mg cm H2 y b ∧ k ls a b st = some (r, st') ∧ Out K mg W σ cm H2 G r st' := by
  obtain ⟨cm, ls, st, r, st', R, e, o⟩ := h
  rcases M.bind_inv e with ⟨a, st1, e1, e2⟩ | ⟨c, f, v, e1, rfl⟩
  · refine ⟨cm, ls, st, _, st1, R, e1, fun cm1 H1 x1 s1 y hy => ?_⟩
    rcases M.bind_inv e2 with ⟨b, st2, e3, e4⟩ | ⟨c, f, v, e3, rfl⟩
    · refine ⟨cm1, ls, st1, _, st2, R.ext x1 s1, e3, fun cm2 H2 x2 s2 z hz => ?_⟩
      refine ⟨cm2, ls, st2, a, b, r, st', (R.ext x1 s1).ext x2 s2, hy.ext x2, hz, e4, ?_⟩
      cases r with
      | val b => exact fun cm3 H3 x3 s3 => o cm3 H3 ((x1.trans x2).trans x3) s3
      | exc c f v => exact fun cm3 H3 x3 s3 => o cm3 H3 ((x1.trans x2).trans x3) s3
    · exact ⟨cm1, ls, st1, _, st', R.ext x1 s1, e3, fun cm2 H2 x2 s2 => o cm2 H2 (x1.trans x2) s2⟩
  · exact ⟨cm, ls, st, _, st', R, e1, o⟩
def mChain (g g' : Sto → IV → IV → Option IV) (fa fb fc : ME) : ME := fun ls => M.bind (fa ls) fun a => M.bind (fb ls) fun b => M.bind (opM g a b) fun z => match z with
  | .bl true => M.bind (fc ls) fun c => opM g' b c
  | .bl false => M.ret (.bl false)
  | _ => M.stuck
theorem rd_chain {r r' : R2} {g g' : Sto → IV → IV → Option IV} {fa fb fc : ME} {Q : VK} (ho : OpV K mg r g) (ho' : OpV K mg r' g') (h : rdE K mg W (mChain g g' fa fb fc) σ H Q) : tChain r r' (rdE K mg W fa) (rdE K mg W fb) (rdE K mg W fc) σ H Q := by
  refine rdE_mono (rd2L (k := fun ls a b => M.bind (opM g a b) fun z => match z with
    | .bl true => M.bind (fc ls) fun c => opM g' b c
    | .bl false => M.ret (.bl false)
    | _ => M.stuck) h) fun x H1 h1 => rdE_mono h1 fun y H2 h2 => ?_
  obtain ⟨cm, ls, st, a, b, r, st', R, hx, hy, e, o⟩ := h2
  cases q1 : g st a b with
  | none => simp only [M.bind, opM, q1, Option.map] at e; cases e
  | some z =>
    simp only [M.bind, opM, q1, Option.map] at e
    refine ho cm st H2 x y a b z _ R.sto hx hy q1 fun cm' H' z' E s' hz => ?_
    cases z with
    | bl k =>
      cases hz
      refine ⟨k, rfl, ?_⟩
      cases k with
      | false =>
        cases e
        simp only [Bool.false_eq_true, if_false]
        exact o cm' H' E s' _ (.bl _)
      | true =>
        simp only [if_true]
        have e' : M.bind (fc ls) (fun c => opM g' b c) st = some (r, st') := e
        have o' : Out K mg W σ cm' H' (GE K mg Q) r st' := by
          cases r with
          | val b => exact fun cm3 H3 x3 s3 => o cm3 H3 (E.trans x3) s3
          | exc c f v => exact fun cm3 H3 x3 s3 => o cm3 H3 (E.trans x3) s3
        rcases M.bind_inv e' with ⟨c, st2, e3, e4⟩ | ⟨c, f, v, e3, rfl⟩
        · refine ⟨cm', ls, st, _, st2, R.ext E s', e3, fun cm2 H2' x2 s2 w hw => ?_⟩
          unfold opM at e4
          cases q2 : g' st2 b c with
          | none => rw [q2] at e4; cases e4
          | some v =>
            rw [q2] at e4
            cases e4
            exact ho' cm2 _ H2' y w b c v Q s2 ((hy.ext E).ext x2) hw q2 fun cm3 H3 z3 x3 s3 h3 => o cm3 H3 ((E.trans x2).trans x3) s3 z3 h3
        · exact ⟨cm', ls, st, _, st', R.ext E s', e3, o'⟩
    | _ => cases e
end
section
variable {X : Cx} {W : WX} {a b c e : Expr} {fa fb fc : ME} {pos : Pos} {op op' : CmpOp} {g g' : Sto → IV → IV → Option IV}
theorem e_chain (hc : CmpV X op g) (hc' : CmpV X op' g') (ha : PE' X W a fa) (hb : PE' X W b fb) (hcc : PE' X W c fc) (hm : lastMarks [op, op'] [b, c] = false := by with_unfolding_all rfl) :
    PE' X W (.Compare a [op, op'] [b, c] pos) (mChain g g' fa fb fc) := by
  obtain ⟨r, h1, h2⟩ := hc.ex
  obtain ⟨r', h3, h4⟩ := hc'.ex
  exact PE_imp (pe_chain h1 h3 ha hb hcc hm) fun _ _ _ h => rd_chain h2 h4 h
end
end MK
namespace MK
open PySem PySem.Spec PyProof.Rows L2
structure MetOk (P : Program) (w : World) (K : PySem.W.Frag) (mg : Str → Option Value) (base : Heap) (k : Nat) (c m : Str) (ps : List Str) (g : MF) : Prop where
  ex : ∃ C f fd, mg c = some (.ref C) ∧ PySem.W.findIn K (.ref C) m = some (some (.ref f)) ∧ PySem.W.isFn K (.ref f) = true ∧ Binds K fd ps [] ∧ FnOk P w K mg base (L2.CX P w) k f fd ps (spM K mg ps.length g)
theorem MetOk.mono {P : Program} {w : World} {K : PySem.W.Frag} {mg : Str → Option Value} {base : Heap} {j k : Nat} {c m : Str} {ps : List Str} {g : MF} (h : MetOk P w K mg base j c m ps g) (hk : j ≤ k) : MetOk P w K mg base k c m ps g := by
  obtain ⟨C, f, fd, h1, h2, h3, h4, h5⟩ := h.ex
  exact ⟨⟨C, f, fd, h1, h2, h3, h4, h5.mono hk⟩⟩
theorem MetOk.imp {P : Program} {w : World} {K : PySem.W.Frag} {mg : Str → Option Value} {base : Heap} {k : Nat} {c m : Str} {ps : List Str} {g g' : MF} (h : MetOk P w K mg base k c m ps g) (i : ∀ l st r, g' l st = some r → g l st = some r) : MetOk P w K mg base k c m ps g' := by
  obtain ⟨C, f, fd, h1, h2, h3, h4, h5⟩ := h.ex
  exact ⟨⟨C, f, fd, h1, h2, h3, h4, h5.imp (spM_imp i)⟩⟩
def clsI (st : Sto) : IV → Option Str
  | .obj c _ => some c
  | .cell n => match st[n]? with
    | some (.ins c _) => some c
    | _ => none
  | _ => none
theorem clsI_rep {K : PySem.W.Frag} {mg : Str → Option Value} {cm : Wd} {st : Sto} {H : Hp} {x : V} {a : IV} {c : Str} (s : RelS K mg cm st H) (h : Rep K mg cm H x a) (e : clsI st a = some c) : ∃ p C dx fs, x = .ref p ∧ mg c = some (.ref C) ∧ H p = some (.ins C dx fs) := by
  cases h with
  | obj h1 h2 h3 h4 => cases e; exact ⟨_, _, _, _, rfl, h1, h2⟩
  | @cell p n h =>
    simp only [clsI] at e
    split at e
    · rename_i q
      cases e
      obtain ⟨C, dx, fs', h0, h1, _⟩ := s.at' n p _ h q
      exact ⟨p, C, dx, fs', rfl, h0, h1⟩
    · cases e
  | _ => cases e
inductive TyA where
  | b (t : Ty)
  | o (c : Str)
def tyA (st : Sto) (a : IV) : Option TyA := match tyI st a with
  | some t => some (.b t)
  | none => (clsI st a).map .o
structure InsT (K : PySem.W.Frag) (C : Addr) : Prop where
  cl : Cls K C
  si : SlX.SIsi K C
structure IsOk (K : PySem.W.Frag) (mg : Str → Option Value) (c : Str) (os : List Str) : Prop where
  ex : ∃ C, mg c = some (.ref C)
  it : ∀ c' ∈ c :: os, ∀ C', mg c' = some (.ref C') → InsT K C'
  ty : ∀ C, mg c = some (.ref C) → ∀ T : Ty, PySem.W.kitOne K (.type T.nm) (.ref C) = some false ∧ PySem.W.notFirst K C (.type T.nm) = true
  ot : ∀ C, mg c = some (.ref C) → ∀ c' ∈ os, ∀ C', mg c' = some (.ref C') → PySem.W.kitOne K (.ref C') (.ref C) = some false ∧ PySem.W.notFirst K C (.ref C') = true
def isC (c : Str) (os : List Str) : TyA → Option Bool
  | .b _ => some false
  | .o c' => if c' = c then some true else if c' ∈ os then some false else none
theorem kit_refl {K : PySem.W.Frag} {t : Value} : PySem.W.kitOne K t t = some true := by
  unfold PySem.W.kitOne
  rw [if_pos (by simp)]
theorem isC_ty {K : PySem.W.Frag} {mg : Str → Option Value} {cm : Wd} {st : Sto} {H : Hp} {x : V} {a : IV} {c : Str} {os : List Str} {t : TyA} {b : Bool} {C : Addr} (F : IsOk K mg c os) (hC : mg c = some (.ref C)) (s : RelS K mg cm st H) (h : Rep K mg cm H x a) (e : tyA st a = some t) (e2 : isC c os t = some b) :
    ∃ u, TyX K H x u ∧ PySem.W.kitOne K u (.ref C) = some b ∧ PySem.W.notFirst K C u = true := by
  unfold tyA at e
  cases q : tyI st a with
  | some T =>
    rw [q] at e
    cases e
    cases e2
    exact ⟨_, ty_rep s h q, (F.ty C hC T).1, (F.ty C hC T).2⟩
  | none =>
    rw [q] at e
    cases q2 : clsI st a with
    | none => rw [q2] at e; cases e
    | some c' =>
      rw [q2] at e
      cases e
      obtain ⟨p, C', dx, fs, rfl, h1, h2⟩ := clsI_rep s h q2
      have ty : ∀ c' ∈ c :: os, mg c' = some (.ref C') → TyX K H (.ref p) (.ref C') := fun c' hc' hm => by
        have I := F.it c' hc' C' hm
        exact .base (.ins h2 I.cl I.si.ca I.si.cn I.si.ct I.si.cm)
      simp only [isC] at e2
      split at e2
      · rename_i hc
        cases e2
        subst hc
        rw [hC] at h1
        cases h1
        exact ⟨_, ty _ List.mem_cons_self hC, kit_refl, by simp [PySem.W.notFirst]⟩
      · split at e2
        · rename_i hm
          cases e2
          exact ⟨_, ty _ (List.mem_cons_of_mem _ hm) h1, (F.ot C hC c' hm C' h1).1, (F.ot C hC c' hm C' h1).2⟩
        · cases e2
def isCM (c : Str) (os : List Str) (v : IV) : M IV := fun st => ((tyA st v).bind (isC c os)).map fun b => (.val (.bl b), st)
def mIsC (c : Str) (os : List Str) (f : ME) : ME := fun ls => M.bind (f ls) (isCM c os)
section
variable {X : Cx} {W : WX} {a b e : Expr} {fa fb : ME} {c : Str} {os : List Str} {k : Nat} {ps : List Str} {g : MF} {p p2 pos : Pos}
theorem e_isC (F : IsOk X.K X.mg c os) (hm : X.mg "isinstance" = none) (hg : Gl X "isinstance") (hg2 : Gl X c) (ha : PE' X W a fa) (hd : (c == ("__debug__" : Str)) = false := by decide)
    (he : starEach [a, .Name c p2] X.env = (false, eval a X.env) :: starEach [.Name c p2] X.env := by rfl) (he2 : starEach [.Name c p2] X.env = (false, eval (.Name c p2) X.env) :: starEach [] X.env := by rfl)
    (hpl : (backTo pos (starEach [.Name c p2] X.env)).any (·.1) = false := by rfl) : PE' X W (.Call (.Name "isinstance" p) [a, .Name c p2] [] pos) (mIsC c os fa) := by
  obtain ⟨C, hC⟩ := F.ex
  refine PE_imp (pe_callB call_isi hg hm PyProof.Rows.boot_isinstance (pa_cons ha (pa_cons (pe_glob (v := .ref C) hg2 hC rfl hd) pa_nil he2) he) (by decide) (by decide) he hpl) fun σ H Q h => rdE_mono (rd1 h) fun x H1 h1 => ?_
  obtain ⟨cm, st, v, r, st', s, hx, e, o⟩ := h1
  unfold isCM at e
  cases q : tyA st v with
  | none => rw [q] at e; cases e
  | some t =>
    rw [q] at e
    cases q2 : isC c os t with
    | none => simp only [Option.bind, q2] at e; cases e
    | some b =>
      simp only [Option.bind, q2, Option.map] at e
      cases e
      obtain ⟨u, h1, h2, _⟩ := isC_ty F hC s hx q q2
      exact ⟨x, .ref C, u, .ref C, b, rfl, .own C, h1, h2, o cm H1 (Ext.refl _ _) s _ (.bl _)⟩
end
end MK
namespace MK
open PySem PySem.Spec PyProof.Rows L2
theorem hu65 {k : Nat} {A : Around} (hr : Room k A) : A.units + 65 < cLine := by have := hr.un; omega
def BindsAll (fd : FuncData) (ps : List Str) : Prop := ∀ us : List Value, us.length = ps.length → bindArgs fd ⟨us, []⟩ = pure (ps.zip us)
theorem BindsAll.binds {K : PySem.W.Frag} {fd : FuncData} {ps : List Str} (h : BindsAll fd ps) : Binds K fd ps [] := .all h
structure FunOk (K : PySem.W.Frag) (mg : Str → Option Value) (x : Str) (st : Stmt) (ps : List Str) : Prop where
  ex : ∃ f fd, mg x = some (.ref f) ∧ Fun K x x st f fd ∧ BindsAll fd ps
structure MetFun (K : PySem.W.Frag) (mg : Str → Option Value) (c m qual : Str) (st : Stmt) (ps : List Str) : Prop where
  ex : ∃ C f fd, mg c = some (.ref C) ∧ PySem.W.findIn K (.ref C) m = some (some (.ref f)) ∧ PySem.W.isFn K (.ref f) = true ∧ Fun K m qual st f fd ∧ BindsAll fd ps
structure ClsFun (K : PySem.W.Frag) (mg : Str → Option Value) (c qual : Str) (st : Stmt) (ps : List Str) : Prop where
  ex : ∃ C f fd, mg c = some (.ref C) ∧ Mk K C f ∧ Fun K "__init__" qual st f fd ∧ BindsAll fd ps
structure ExcFun (K : PySem.W.Frag) (mg : Str → Option Value) (c f qual : Str) (st : Stmt) (ps : List Str) : Prop where
  ex : ∃ C fI fd, mg c = some (.ref C) ∧ OexC K C ∧ PySem.W.findIn K (.ref C) f = some none ∧ PySem.W.findIn K (.ref C) "__init__" = some (some (.ref fI)) ∧ PySem.W.typeIn K (.ref fI) = some (.type "function") ∧ XF K C f ∧ Fun K "__init__" qual st fI fd ∧ BindsAll fd ps
section
variable {P : Program} {w : World} {K : PySem.W.Frag} {mg : Str → Option Value} {base : Heap} {x c m f qual : Str} {st : Stmt} {N ps : List Str} {k : Nat} {body : MS}
abbrev Body (P : Program) (w : World) (K : PySem.W.Frag) (mg : Str → Option Value) (base : Heap) (N : List Str) (qual : Str) (st : Stmt) (k : Nat) (body : MS) : Prop :=
  ∀ (f : Addr) (cdv : Value) (A : Around) (outer : List Env) (s : Shared) (H : Hp) (E : XK), Room k (A.deeper (envOfC qual (defScope st) s.heap.objs.size f cdv)) → PSs (cxOf (L2.CX P w) P w K mg base N qual (defScope st) f cdv A outer s H E) (defBody st) (rdS K mg (XW E) body)
theorem fn_ok {f : Addr} {fd : FuncData} (keep : Bool) (F : Fun K x qual st f fd) (S : FnScope N ps (defScope st)) (h : Body P w K mg base N qual st k body) : FnOk P w K mg base (L2.CX P w) (k + 1) f fd ps (spM K mg ps.length (finM keep N.length body)) :=
  F.okX S (fun vs H Q E h => h.1) fun cdv A outer s H vs Q E hr hsp => ⟨_, h f cdv A outer s H E hr, body_end hsp⟩
theorem def_okF (keep : Bool) (F : FunOk K mg x st ps) (S : FnScope N ps (defScope st)) (h : Body P w K mg base N x st k body) : DefOk P w K mg base (k + 1) x ps (finM keep N.length body) := by
  obtain ⟨f, fd, h1, h2, h3⟩ := F.ex
  exact ⟨⟨f, fd, h1, h2.kp, h3.binds, fn_ok keep h2 S h⟩⟩
theorem cls_ok (keep : Bool) (F : ClsFun K mg c qual st ps) (S : FnScope N ps (defScope st)) (h : Body P w K mg base N qual st k body) : ClsOk P w K mg base (k + 1) c ps (finM keep N.length body) := by
  obtain ⟨C, f, fd, h1, h2, h3, h4⟩ := F.ex
  exact ⟨⟨C, f, fd, h1, h2, h4.binds, fn_ok keep h3 S h⟩⟩
theorem exc_ok {v : Str} (F : ExcFun K mg c f qual st ["self", v]) (S : FnScope ["self", v] ["self", v] (defScope st))
    (h : ∀ (g : Addr) (cdv : Value) (A : Around) (outer : List Env) (s : Shared) (H : Hp) (E : XK), PSs (cxOf (L2.CX P w) P w K mg base ["self", v] qual (defScope st) g cdv A outer s H E) (defBody st) (tOst K f (tVar 0) (tVar 1))) : ExcOk P w K mg base c f := by
  obtain ⟨C, fI, fd, h1, h2, h3, h4, h5, h6, h7, h8⟩ := F.ex
  refine ⟨⟨C, fI, fd, ["self", v], h1, h2, h3, h4, h5, h6, h8.binds, h7.okX S (fun vs H Q E h => ?_) fun cdv A outer s H vs Q E hr hsp => ⟨_, h fI cdv A outer s H E, ?_⟩⟩⟩
  · obtain ⟨a, C, y, rfl, _⟩ := h
    rfl
  · obtain ⟨a, C, y, rfl, t1, t2, t3, k⟩ := hsp
    exact ⟨y, rfl, .ref a, rfl, a, C, rfl, t1, t2, .inl ⟨t3, fun dx hdx ne => k dx hdx ne⟩⟩
theorem e_gI {X : Cx} {W : WX} {pos : Pos} {x : Str} {i : Int} (hm : ∃ t, X.mg x = some (.int i t)) (hg : Gl X x := by rfl) (hd : (x == ("__debug__" : Str)) = false := by decide) : PE' X W (.Name x pos) (mC (.int i)) := by
  obtain ⟨t, hm⟩ := hm
  exact e_globI hg hm hd
end
def subT (tab : List (Str × Str × Bool)) (c x : Str) : Option Bool := match tab with
  | [] => none
  | (c', x', b) :: r => if c = c' ∧ x = x' then some b else subT r c x
theorem subOk_of {K : PySem.W.Frag} {mg : Str → Option Value} : ∀ {tab : List (Str × Str × Bool)}, (∀ t ∈ tab, ∀ C Cx, mg t.1 = some (.ref C) → mg t.2.1 = some (.ref Cx) → PySem.W.exmOne K (.ref C) (.ref Cx) = some t.2.2) → SubOk K mg (subT tab)
  | [], _ => fun c x b C Cx h _ _ => by cases h
  | (c', x', b') :: r, h => fun c x b C Cx e h1 h2 => by
    unfold subT at e
    split at e
    · rename_i q
      cases e
      obtain ⟨rfl, rfl⟩ := q
      exact h _ List.mem_cons_self C Cx h1 h2
    · exact subOk_of (fun t m => h t (List.mem_cons_of_mem _ m)) c x b C Cx e h1 h2
def spLaw (K : PySem.W.Frag) : Sp := fun vs H Q _ => ∃ (a : Addr) (ns : List Int), vs = [.ref a] ∧ SqL K H a (ns.map V.int) ∧ ns.length ≤ 63 ∧ Only H ∧ ∀ H', Q (.bl true) H'
theorem sp_law {K : PySem.W.Frag} {mg : Str → Option Value} {g : MF} (hg : ∀ ns : List Int, ns.length ≤ 63 → ∃ st', g [.scr (ns.map .int)] [] = some (.val (.bl true), st')) : ∀ vs H Q E, spLaw K vs H Q E → spM K mg 1 g vs H Q E := by
  intro vs H Q E ⟨a, ns, e, hs, hl, hO, k⟩
  subst e
  obtain ⟨st', e⟩ := hg ns hl
  refine ⟨rfl, ⟨[], [], fun _ h => h⟩, [], [.scr (ns.map .int)], _, st', ⟨rfl, .nil, fun n a c h => by simp at h, fun a h => by simp at h⟩, .cons (.scr ?_ (rep_ints ns)) .nil, e, fun cm' H' E s x hx => ?_⟩
  · rcases hs with (h | ⟨o, h⟩) | h
    · rcases hO a with z | ⟨o, xs, z⟩
      · rw [z] at h; cases h
      · rw [z] at h; cases h
    · exact .inl ⟨⟨o, h⟩, by simp⟩
    · exact .inr h
  · cases hx
    exact k H'
theorem walk {l : PySem.W.OpenLaw} {q : Program} {loose : List Str} {XP : (Str → Option Value) → Heap → Prop} {YP : World → Heap → Prop} {d : DefRec} {K : Params → PySem.W.Frag} (k : Nat) (hr : Room k callerA) (hn : l.most = some 63) (hdf : d.params.defaults = [])
    (hY : ∀ (w : World) (h : Heap), YP w h → (K w.params).In h)
    (F : ∀ (w : World) (mg : Str → Option Value) (fa : Addr) (h : Heap), (K w.params).In h → h.Ns mainGlobals mg → mg d.name = some (.ref fa) →
      ∃ fd : FuncData, BindsAll fd ["script"] ∧ ∀ base : Heap, (K w.params).In base → base.Ns mainGlobals mg → FnOk l.prog w (K w.params) mg base (L2.CX l.prog w) k fa fd ["script"] (spLaw (K w.params))) :
    PySem.W.WalkO q loose XP YP l.row.toRowW d [] (fun f vs => PySem.call f vs) :=
  L2.walk_of (n := 63) (k := k) (x := "script") (CX := fun w => L2.CX l.prog w) (sp := fun w => spLaw (K w.params)) hn (by decide) hdf hr hY (fun w mg fa h a b c => by
    obtain ⟨fd, h1, h2⟩ := F w mg fa h a b c
    exact ⟨fd, fun s u => .of_eq (h1 [u] rfl), h2⟩) (fun _ _ a ns hl hO hS => ⟨a, ns, rfl, hS, hl, hO, fun _ => rfl⟩) fun _ _ _ _ _ h => by
    obtain ⟨_, _, _, _, _, _, _, _, _, _, _, _, z⟩ := h
    exact z.elim
theorem law_fn {P : Program} {w : World} {K : PySem.W.Frag} {mg : Str → Option Value} {base : Heap} {f : Addr} {fd : FuncData} {qual : Str} {st : Stmt} {N : List Str} {k : Nat} {body : MS} {x : Str} (F : Fun K x qual st f fd) (S : FnScope N ["script"] (defScope st)) (h : Body P w K mg base N qual st k body)
    (hg : ∀ ns : List Int, ns.length ≤ 63 → ∃ st', finM false N.length body [.scr (ns.map .int)] [] = some (.val (.bl true), st')) : FnOk P w K mg base (L2.CX P w) (k + 1) f fd ["script"] (spLaw K) :=
  (fn_ok false F S h).imp (sp_law hg)
end MK
namespace MK
open PySem PySem.Spec PyProof.Rows L2
section
variable {K : PySem.W.Frag} {h : Heap} {mg : Str → Option Value} {x c m f qual : Str} {st : Stmt} {ps : List Str}
theorem FunOk.of (X : K.In h) (G : h.Ns mainGlobals mg) {fa : Addr} {od an : Option Addr} {sl : Array (Option Value)} {oc kV dc pm cd ct : Value}
    (a : PySem.W.nsIn K mainGlobals x = some (some (.ref fa))) (l : K.lookup fa = some ⟨oc, od, .func (PySem.W.fnOf x x (defArgs st) (defBody st) (defScope st) .none kV dc pm an cd ct), sl⟩) (c : PySem.W.codeIn K cd x = true) (k : PySem.W.keepIn K (.ref fa) = true)
    (b : ∀ (kV dc pm cd ct : Value) (an : Option Addr), BindsAll (PySem.W.fnOf x x (defArgs st) (defBody st) (defScope st) .none kV dc pm an cd ct) ps) : FunOk K mg x st ps :=
  ⟨⟨fa, _, PySem.W.mg_of X G a, fun_mk l c k, b _ _ _ _ _ _⟩⟩
theorem MetFun.of (X : K.In h) (G : h.Ns mainGlobals mg) {fa C : Addr} {od an : Option Addr} {sl : Array (Option Value)} {oc kV dc pm cd ct : Value}
    (aC : PySem.W.nsIn K mainGlobals c = some (some (.ref C))) (a : PySem.W.findIn K (.ref C) m = some (some (.ref fa))) (i : PySem.W.isFn K (.ref fa) = true)
    (l : K.lookup fa = some ⟨oc, od, .func (PySem.W.fnOf m qual (defArgs st) (defBody st) (defScope st) .none kV dc pm an cd ct), sl⟩) (cc : PySem.W.codeIn K cd qual = true) (k : PySem.W.keepIn K (.ref fa) = true)
    (b : ∀ (kV dc pm cd ct : Value) (an : Option Addr), BindsAll (PySem.W.fnOf m qual (defArgs st) (defBody st) (defScope st) .none kV dc pm an cd ct) ps) : MetFun K mg c m qual st ps :=
  ⟨⟨C, fa, _, PySem.W.mg_of X G aC, a, i, fun_mk l cc k, b _ _ _ _ _ _⟩⟩
theorem ClsFun.of (X : K.In h) (G : h.Ns mainGlobals mg) {fa C : Addr} {od an : Option Addr} {sl : Array (Option Value)} {oc kV dc pm cd ct : Value}
    (aC : PySem.W.nsIn K mainGlobals c = some (some (.ref C))) (a : PySem.W.findIn K (.ref C) "__init__" = some (some (.ref fa))) (i : PySem.W.isFn K (.ref fa) = true)
    (l : K.lookup fa = some ⟨oc, od, .func (PySem.W.fnOf "__init__" qual (defArgs st) (defBody st) (defScope st) .none kV dc pm an cd ct), sl⟩) (cc : PySem.W.codeIn K cd qual = true) (k : PySem.W.keepIn K (.ref fa) = true)
    (mk : PySem.W.makesIn K C = true) (kc : PySem.W.keepIn K (.ref C) = true)
    (b : ∀ (kV dc pm cd ct : Value) (an : Option Addr), BindsAll (PySem.W.fnOf "__init__" qual (defArgs st) (defBody st) (defScope st) .none kV dc pm an cd ct) ps) : ClsFun K mg c qual st ps :=
  ⟨⟨C, fa, _, PySem.W.mg_of X G aC, ⟨mk, a, i, kc⟩, fun_mk l cc k, b _ _ _ _ _ _⟩⟩
theorem ExcFun.of (X : K.In h) (G : h.Ns mainGlobals mg) {fa C : Addr} {od an : Option Addr} {sl : Array (Option Value)} {oc kV dc pm cd ct : Value}
    {nm q : Str} {N : Addr} {bs bm : List Value} {sn : List Str} {sub : List Value} {ab : Bool} {col : Option Bool} {dd : Option Addr} {m0 m1 m2 m3 m5 : Option Value}
    (aC : PySem.W.nsIn K mainGlobals c = some (some (.ref C)))
    (xL : K.lookup C = some (excClassObj nm q C N bs bm true sn sub ab col dd m0 m1 m2 m3 m5 "ValueError.__new__")) (rv : PySem.HandSPX.refsVE bm = true)
    (sa : PySem.W.findIn K (.ref C) "__setattr__" = some (some (.builtin "object.__setattr__"))) (ga : PySem.W.findIn K (.ref C) "__getattribute__" = some (some (.builtin "BaseException.__getattribute__"))) (gg : PySem.W.findIn K (.ref C) "__getattr__" = some none)
    (nf : PySem.W.findIn K (.ref C) f = some none) (a : PySem.W.findIn K (.ref C) "__init__" = some (some (.ref fa))) (t : PySem.W.typeIn K (.ref fa) = some (.type "function"))
    (l : K.lookup fa = some ⟨oc, od, .func (PySem.W.fnOf "__init__" qual (defArgs st) (defBody st) (defScope st) .none kV dc pm an cd ct), sl⟩) (cc : PySem.W.codeIn K cd qual = true) (k : PySem.W.keepIn K (.ref fa) = true)
    (kC : PySem.W.keepIn K (.ref C) = true) (eC : PySem.W.subIn K (.ref C) (.type "BaseException") = some true) (tC : PySem.W.typeIn K (.ref C) = some (.type "type")) (hC : PySem.W.hasDictIn K C = true)
    (b : ∀ (kV dc pm cd ct : Value) (an : Option Addr), BindsAll (PySem.W.fnOf "__init__" qual (defArgs st) (defBody st) (defScope st) .none kV dc pm an cd ct) ps) : ExcFun K mg c f qual st ps :=
  ⟨⟨C, fa, _, PySem.W.mg_of X G aC, ⟨⟨nm, q, N, bs, bm, sn, sub, ab, col, dd, m0, m1, m2, m3, m5, xL, rv⟩, sa, eC, tC, kC⟩, nf, a, t, ⟨⟨ga, gg, eC, hC⟩, nf⟩, fun_mk l cc k, b _ _ _ _ _ _⟩⟩
theorem kit_sub {t : Value} {C : Addr} {b : Bool} (hn : (t == .ref C) = false) (i : PySem.W.isClsIn K C = true) (tC : PySem.W.typeIn K (.ref C) = some (.type "type")) (s : PySem.W.subIn K t (.ref C) = some b) : PySem.W.kitOne K t (.ref C) = some b := by
  unfold PySem.W.kitOne
  rw [if_neg (by rw [hn]; decide)]
  show (if ((PySem.W.clsIn K C).isSome && PySem.W.typeIn K (.ref C) == some (.type "type")) = true then PySem.W.subIn K t (.ref C) else none) = some b
  have i' : (PySem.W.clsIn K C).isSome = true := i
  rw [if_pos (by rw [i', tC]; rfl)]
  exact s
theorem exm_sub {C Cx : Addr} {b : Bool} (e : PySem.W.subIn K (.ref Cx) (.type "BaseException") = some true) (i : PySem.W.isClsIn K Cx = true) (tC : PySem.W.typeIn K (.ref Cx) = some (.type "type")) (s : PySem.W.subIn K (.ref C) (.ref Cx) = some b) : PySem.W.exmOne K (.ref C) (.ref Cx) = some b := by
  have e1 : (PySem.W.subIn K (.ref Cx) (.type "BaseException") == some true) = true := by rw [e]; rfl
  have e2 : ((PySem.W.clsIn K Cx).isSome && PySem.W.typeIn K (.ref Cx) == some (.type "type")) = true := by
    have i' : (PySem.W.clsIn K Cx).isSome = true := i
    rw [i', tC]; rfl
  show (if (PySem.W.subIn K (.ref Cx) (.type "BaseException") == some true) = true then (if ((PySem.W.clsIn K Cx).isSome && PySem.W.typeIn K (.ref Cx) == some (.type "type")) = true then PySem.W.subIn K (.ref C) (.ref Cx) else none) else none) = some b
  rw [if_pos e1, if_pos e2]
  exact s
structure Own (K : PySem.W.Frag) (mg : Str → Option Value) (c : Str) (C : Addr) : Prop where
  m : mg c = some (.ref C)
  i : InsT K C
  cl : PySem.W.isClsIn K C = true
  t : PySem.W.typeIn K (.ref C) = some (.type "type")
theorem Own.of (X : K.In h) (G : h.Ns mainGlobals mg) {C : Addr} (aC : PySem.W.nsIn K mainGlobals c = some (some (.ref C)))
    (pg : PySem.W.plainGet K C Str.empty = true) (hd : PySem.W.hasDictIn K C = true) (po : PySem.W.plainOver K C = true) (sa : PySem.W.findIn K (.ref C) "__setattr__" = some (some (.builtin "object.__setattr__")))
    (ca : PySem.W.findIn K (.ref C) "__class__" = some (some (.builtin "object.__class__"))) (cn : PySem.W.specialIn K (.builtin "object.__class__") "__get__" = some (some (.builtin "getset_descriptor.__get__")))
    (ct : PySem.W.takesIn K (.builtin "object.__class__") = some true) (cm : PySem.W.mroIn K C (.type "object") = some true) (cl : PySem.W.isClsIn K C = true) (t : PySem.W.typeIn K (.ref C) = some (.type "type")) : Own K mg c C :=
  ⟨PySem.W.mg_of X G aC, ⟨⟨pg, hd, po, sa⟩, ⟨ca, cn, ct, cm⟩⟩, cl, t⟩
theorem IsOk.of {C : Addr} (o : Own K mg c C) (s1 : PySem.W.subIn K (.type "NoneType") (.ref C) = some false) (s2 : PySem.W.subIn K (.type "bool") (.ref C) = some false) (s3 : PySem.W.subIn K (.type "int") (.ref C) = some false)
    (s4 : PySem.W.subIn K (.type "str") (.ref C) = some false) (s5 : PySem.W.subIn K (.type "tuple") (.ref C) = some false) (s6 : PySem.W.subIn K (.type "list") (.ref C) = some false) : IsOk K mg c [] := by
  have ty : ∀ T : Ty, PySem.W.subIn K (.type T.nm) (.ref C) = some false := fun T => by cases T <;> assumption
  refine ⟨⟨C, o.m⟩, fun c' hc C' h => ?_, fun C' h T => ?_, fun C' h c' hc => by cases hc⟩
  · simp at hc
    subst hc
    rw [o.m] at h; cases h
    exact o.i
  · rw [o.m] at h; cases h
    refine ⟨kit_sub rfl o.cl o.t (ty T), ?_⟩
    unfold PySem.W.notFirst
    rw [ty T]
    simp
theorem FldOk.of {C : Addr} (o : Own K mg c C) (n : PySem.W.findIn K (.ref C) f = some none) : FldOk K mg c f := fun C' h => by
  rw [o.m] at h; cases h
  exact ⟨o.i.cl, n⟩
theorem c_int (X : K.In h) (G : h.Ns mainGlobals mg) {i : Int} {t : Tok} (a : PySem.W.nsIn K mainGlobals x = some (some (.int i t))) : ∃ t, mg x = some (.int i t) := ⟨t, PySem.W.mg_of X G a⟩
theorem c_ref (X : K.In h) (G : h.Ns mainGlobals mg) {C : Addr} (a : PySem.W.nsIn K mainGlobals x = some (some (.ref C))) : ∃ C, mg x = some (.ref C) := ⟨C, PySem.W.mg_of X G a⟩
def SubRow (K : PySem.W.Frag) (mg : Str → Option Value) (t : Str × Str × Bool) : Prop := ∀ C Cx, mg t.1 = some (.ref C) → mg t.2.1 = some (.ref Cx) → PySem.W.exmOne K (.ref C) (.ref Cx) = some t.2.2
theorem SubRow.of (X : K.In h) (G : h.Ns mainGlobals mg) {c x : Str} {b : Bool} {C Cx : Addr} (a : PySem.W.nsIn K mainGlobals c = some (some (.ref C))) (ax : PySem.W.nsIn K mainGlobals x = some (some (.ref Cx)))
    (e : PySem.W.subIn K (.ref Cx) (.type "BaseException") = some true) (i : PySem.W.isClsIn K Cx = true) (tC : PySem.W.typeIn K (.ref Cx) = some (.type "type")) (s : PySem.W.subIn K (.ref C) (.ref Cx) = some b) : SubRow K mg (c, x, b) := by
  intro C' Cx' h1 h2
  rw [PySem.W.mg_of X G a] at h1
  rw [PySem.W.mg_of X G ax] at h2
  cases h1; cases h2
  exact exm_sub e i tC s
theorem rows_nil : ∀ t ∈ ([] : List (Str × Str × Bool)), SubRow K mg t := fun t h => by cases h
theorem rows_cons {t : Str × Str × Bool} {r : List (Str × Str × Bool)} (h : SubRow K mg t) (hr : ∀ t ∈ r, SubRow K mg t) : ∀ u ∈ t :: r, SubRow K mg u := fun u hu => by
  rcases List.mem_cons.mp hu with q | q
  · subst q; exact h
  · exact hr u q
end
end MK
namespace MK
open PySem L2
class Rule (P : Prop) (H : outParam Prop) : Prop where
  ok : H → P
abbrev EX := Str → Str → IV → Sto → Prop
def we {α : Type} (m : M α) (st : Sto) (E : EX) (Q : α → Sto → Prop) : Prop := ∃ r st', m st = some (r, st') ∧ match r with
  | .val a => Q a st'
  | .exc c f v => E c f v st'
abbrev noX : EX := fun _ _ _ _ => False
section
variable {α β : Type} {m : M α} {k : α → M β} {st : Sto} {E : EX} {Q : α → Sto → Prop} {R : β → Sto → Prop}
theorem we_run {a : α} {st' : Sto} (e : m st = some (.val a, st')) (q : Q a st') : we m st E Q := ⟨_, _, e, q⟩
theorem we_mono {Q' : α → Sto → Prop} (h : we m st E Q) (i : ∀ a st', Q a st' → Q' a st') : we m st E Q' := by
  obtain ⟨r, st', e, q⟩ := h
  refine ⟨r, st', e, ?_⟩
  cases r with
  | val a => exact i _ _ q
  | exc c f v => exact q
theorem we_monoX {E' : EX} {Q' : α → Sto → Prop} (h : we m st E Q) (j : ∀ c f v st', E c f v st' → E' c f v st') (i : ∀ a st', Q a st' → Q' a st') : we m st E' Q' := by
  obtain ⟨r, st', e, q⟩ := h
  refine ⟨r, st', e, ?_⟩
  cases r with
  | val a => exact i _ _ q
  | exc c f v => exact j _ _ _ _ q
theorem we_nox {Q' : α → Sto → Prop} (h : we m st noX Q) (i : ∀ a st', Q a st' → Q' a st') : we m st E Q' := we_monoX h (fun _ _ _ _ z => z.elim) i
theorem we_bind (h : we m st E fun a st' => we (k a) st' E R) : we (M.bind m k) st E R := by
  obtain ⟨r, st', e, q⟩ := h
  cases r with
  | val a =>
    obtain ⟨r2, st2, e2, q2⟩ := q
    exact ⟨r2, st2, by rw [M.bind_run e]; exact e2, q2⟩
  | exc c f v => exact ⟨_, _, M.bind_run_exc e, q⟩
theorem we_noxM (h : we m st noX Q) : we (M.nox m) st E Q := by
  obtain ⟨r, st', e, q⟩ := h
  cases r with
  | val a => exact ⟨_, _, M.nox_run e, q⟩
  | exc c f v => exact q.elim
theorem we_lift {m : Loc → M α} {k : α → Loc → M Fl} {ls : Loc} {R : Fl → Sto → Prop} (h : we (m ls) st (fun c f v st' => R (.ex ls c f v) st') fun a st' => we (k a ls) st' E R) : we (liftS m k ls) st E R := by
  obtain ⟨r, st', e, q⟩ := h
  cases r with
  | val a =>
    obtain ⟨r2, st2, e2, q2⟩ := q
    exact ⟨r2, st2, by unfold liftS; rw [e]; exact e2, q2⟩
  | exc c f v => exact ⟨.val (.ex ls c f v), st', by unfold liftS; rw [e], q⟩
end
section
variable {st : Sto} {E : EX} {ls : Loc} {Q : IV → Sto → Prop} {QA : List IV → Sto → Prop} {QB : Bool → Sto → Prop} {QF : Fl → Sto → Prop} {fa fb fc m : ME} {ga : MA} {c tc ta tb : MT} {f g : MS}
theorem we_var {i : Nat} {v : IV} (h : ls[i]? = some (some v)) (q : Q v st) : we (mVar i ls) st E Q := by
  refine ⟨.val v, st, ?_, q⟩
  unfold mVar
  rw [h]; rfl
theorem we_c {v : IV} (q : Q v st) : we (mC v ls) st E Q := ⟨_, _, rfl, q⟩
instance i_we_c {v : IV} : Rule (we (mC v ls) st E Q) (Q v st) := ⟨we_c⟩
theorem we_m2 {o : Sto → IV → IV → Option IV} (h : we (fa ls) st E fun a st1 => we (fb ls) st1 E fun b st2 => ∃ v, o st2 a b = some v ∧ Q v st2) : we (m2 o fa fb ls) st E Q :=
  we_bind (we_mono h fun a st1 h1 => we_bind (we_mono h1 fun b st2 ⟨v, e, q⟩ => ⟨.val v, st2, by unfold opM; rw [e]; rfl, q⟩))
instance i_we_m2 {o : Sto → IV → IV → Option IV} : Rule (we (m2 o fa fb ls) st E Q) (we (fa ls) st E fun a st1 => we (fb ls) st1 E fun b st2 => ∃ v, o st2 a b = some v ∧ Q v st2) := ⟨we_m2⟩
theorem we_m1 {o : IV → Option IV} (h : we (fa ls) st E fun a st1 => ∃ v, o a = some v ∧ Q v st1) : we (m1 o fa ls) st E Q :=
  we_bind (we_mono h fun a st1 ⟨v, e, q⟩ => ⟨.val v, st1, by rw [e]; rfl, q⟩)
instance i_we_m1 {o : IV → Option IV} : Rule (we (m1 o fa ls) st E Q) (we (fa ls) st E fun a st1 => ∃ v, o a = some v ∧ Q v st1) := ⟨we_m1⟩
theorem we_B (h : we (m ls) st E fun v st1 => ∃ b, v = .bl b ∧ QB b st1) : we (mB m ls) st E QB :=
  we_bind (we_mono h fun a st1 ⟨v, e, q⟩ => by subst e; exact ⟨_, _, rfl, q⟩)
instance i_we_B  : Rule (we (mB m ls) st E QB) (we (m ls) st E fun v st1 => ∃ b, v = .bl b ∧ QB b st1) := ⟨we_B⟩
theorem we_T (h : we (m ls) st E fun v st1 => ∃ b, truthI st1 v = some b ∧ QB b st1) : we (mT m ls) st E QB :=
  we_bind (we_mono h fun a st1 ⟨v, e, q⟩ => ⟨.val v, st1, by unfold truthM; rw [e]; rfl, q⟩)
instance i_we_T  : Rule (we (mT m ls) st E QB) (we (m ls) st E fun v st1 => ∃ b, truthI st1 v = some b ∧ QB b st1) := ⟨we_T⟩
theorem we_not (h : we (tc ls) st E fun b st1 => QB (!b) st1) : we (mNot tc ls) st E QB := we_bind (we_mono h fun a st1 q => ⟨_, _, rfl, q⟩)
instance i_we_not  : Rule (we (mNot tc ls) st E QB) (we (tc ls) st E fun b st1 => QB (!b) st1) := ⟨we_not⟩
theorem we_notV (h : we (m ls) st E fun v st1 => ∃ b, truthI st1 v = some b ∧ Q (.bl (!b)) st1) : we (mNotV m ls) st E Q :=
  we_bind (we_mono h fun a st1 ⟨b, e, q⟩ => we_bind ⟨.val b, st1, by unfold truthM; rw [e]; rfl, ⟨_, _, rfl, q⟩⟩)
instance i_we_notV  : Rule (we (mNotV m ls) st E Q) (we (m ls) st E fun v st1 => ∃ b, truthI st1 v = some b ∧ Q (.bl (!b)) st1) := ⟨we_notV⟩
theorem we_ite {α : Type} {t f : Loc → M α} {Q : α → Sto → Prop} (h : we (c ls) st E fun b st1 => (b = true → we (t ls) st1 E Q) ∧ (b = false → we (f ls) st1 E Q)) : we (mIte c t f ls) st E Q :=
  we_bind (we_mono h fun b st1 ⟨h1, h2⟩ => by
    cases b with
    | true => exact h1 rfl
    | false => exact h2 rfl)
instance i_we_ite {α : Type} {t f : Loc → M α} {Q : α → Sto → Prop} : Rule (we (mIte c t f ls) st E Q) (we (c ls) st E fun b st1 => (b = true → we (t ls) st1 E Q) ∧ (b = false → we (f ls) st1 E Q)) := ⟨we_ite⟩
theorem we_TB {b : Bool} (q : QB b st) : we (mTB b ls) st E QB := ⟨_, _, rfl, q⟩
instance i_we_TB {b : Bool} : Rule (we (mTB b ls) st E QB) (QB b st) := ⟨we_TB⟩
theorem we_andV (h : we (fa ls) st E fun v st1 => ∃ b, truthI st1 v = some b ∧ (b = true → we (fb ls) st1 E Q) ∧ (b = false → Q v st1)) : we (mAndV fa fb ls) st E Q :=
  we_bind (we_mono h fun v st1 ⟨b, e, h1, h2⟩ => we_bind ⟨.val b, st1, by unfold truthM; rw [e]; rfl, by
    cases b with
    | true => exact h1 rfl
    | false => exact ⟨_, _, rfl, h2 rfl⟩⟩)
instance i_we_andV  : Rule (we (mAndV fa fb ls) st E Q) (we (fa ls) st E fun v st1 => ∃ b, truthI st1 v = some b ∧ (b = true → we (fb ls) st1 E Q) ∧ (b = false → Q v st1)) := ⟨we_andV⟩
theorem we_orV (h : we (fa ls) st E fun v st1 => ∃ b, truthI st1 v = some b ∧ (b = true → Q v st1) ∧ (b = false → we (fb ls) st1 E Q)) : we (mOrV fa fb ls) st E Q :=
  we_bind (we_mono h fun v st1 ⟨b, e, h1, h2⟩ => we_bind ⟨.val b, st1, by unfold truthM; rw [e]; rfl, by
    cases b with
    | true => exact ⟨_, _, rfl, h1 rfl⟩
    | false => exact h2 rfl⟩)
instance i_we_orV  : Rule (we (mOrV fa fb ls) st E Q) (we (fa ls) st E fun v st1 => ∃ b, truthI st1 v = some b ∧ (b = true → Q v st1) ∧ (b = false → we (fb ls) st1 E Q)) := ⟨we_orV⟩
theorem we_chain {o o' : Sto → IV → IV → Option IV} (h : we (fa ls) st E fun a st1 => we (fb ls) st1 E fun b st2 => ∃ z, o st2 a b = some (.bl z) ∧ (z = true → we (fc ls) st2 E fun w st3 => ∃ v, o' st3 b w = some v ∧ Q v st3) ∧ (z = false → Q (.bl false) st2)) : we (mChain o o' fa fb fc ls) st E Q :=
  we_bind (we_mono h fun a st1 h1 => we_bind (we_mono h1 fun b st2 ⟨z, e, h2, h3⟩ => we_bind ⟨.val (.bl z), st2, by unfold opM; rw [e]; rfl, by
    cases z with
    | true => exact we_bind (we_mono (h2 rfl) fun w st3 ⟨v, e, q⟩ => ⟨.val v, st3, by unfold opM; rw [e]; rfl, q⟩)
    | false => exact ⟨_, _, rfl, h3 rfl⟩⟩))
instance i_we_chain {o o' : Sto → IV → IV → Option IV} : Rule (we (mChain o o' fa fb fc ls) st E Q) (we (fa ls) st E fun a st1 => we (fb ls) st1 E fun b st2 => ∃ z, o st2 a b = some (.bl z) ∧ (z = true → we (fc ls) st2 E fun w st3 => ∃ v, o' st3 b w = some v ∧ Q v st3) ∧ (z = false → Q (.bl false) st2)) := ⟨we_chain⟩
theorem we_nil (q : QA [] st) : we (mNil ls) st E QA := ⟨_, _, rfl, q⟩
instance i_we_nil  : Rule (we (mNil ls) st E QA) (QA [] st) := ⟨we_nil⟩
theorem we_cons (h : we (fa ls) st E fun v st1 => we (ga ls) st1 E fun l st2 => QA (v :: l) st2) : we (mCons fa ga ls) st E QA :=
  we_bind (we_mono h fun v st1 h1 => we_bind (we_mono h1 fun l st2 q => ⟨_, _, rfl, q⟩))
instance i_we_cons  : Rule (we (mCons fa ga ls) st E QA) (we (fa ls) st E fun v st1 => we (ga ls) st1 E fun l st2 => QA (v :: l) st2) := ⟨we_cons⟩
theorem we_tup (h : we (ga ls) st E fun l st1 => l.length ≤ 16777216 ∧ Q (.tup l) st1) : we (mTup ga ls) st E Q :=
  we_bind (we_mono h fun l st1 ⟨z, q⟩ => by rw [if_pos z]; exact ⟨_, _, rfl, q⟩)
instance i_we_tup  : Rule (we (mTup ga ls) st E Q) (we (ga ls) st E fun l st1 => l.length ≤ 16777216 ∧ Q (.tup l) st1) := ⟨we_tup⟩
theorem we_newF {l : List IV} (q : Q (.lst l) st) : we (newL false l) st E Q := ⟨_, _, rfl, q⟩
instance i_we_newF {l : List IV} : Rule (we (newL false l) st E Q) (Q (.lst l) st) := ⟨we_newF⟩
theorem we_newT {l : List IV} (p : pureL l = true) (q : Q (.cell st.length) (st ++ [.lst l])) : we (newL true l) st E Q := ⟨.val (.cell st.length), _, by unfold newL; simp only [p, if_true], q⟩
theorem we_lst {b : Bool} (h : we (ga ls) st E fun l st1 => l.length ≤ 16777216 ∧ we (newL b l) st1 E Q) : we (mLst b ga ls) st E Q :=
  we_bind (we_mono h fun l st1 ⟨z, q⟩ => by rw [if_pos z]; exact q)
instance i_we_lst {b : Bool} : Rule (we (mLst b ga ls) st E Q) (we (ga ls) st E fun l st1 => l.length ≤ 16777216 ∧ we (newL b l) st1 E Q) := ⟨we_lst⟩
theorem we_cat {b : Bool} (h : we (fa ls) st E fun x st1 => we (fb ls) st1 E fun y st2 => ∃ l m, lstOf st2 x = some l ∧ lstOf st2 y = some m ∧ l.length + m.length ≤ 16777216 ∧ we (newL b (l ++ m)) st2 E Q) : we (mCat b fa fb ls) st E Q :=
  we_bind (we_mono h fun x st1 h1 => we_bind (we_mono h1 fun y st2 ⟨l, m, e1, e2, z, r, st3, e, q⟩ => ⟨r, st3, by unfold catL; simp only [e1, e2, z, if_true]; exact e, q⟩))
instance i_we_cat {b : Bool} : Rule (we (mCat b fa fb ls) st E Q) (we (fa ls) st E fun x st1 => we (fb ls) st1 E fun y st2 => ∃ l m, lstOf st2 x = some l ∧ lstOf st2 y = some m ∧ l.length + m.length ≤ 16777216 ∧ we (newL b (l ++ m)) st2 E Q) := ⟨we_cat⟩
theorem we_call {g : List IV → M IV} (h : we (ga ls) st E fun l st1 => we (g l) st1 E Q) : we (mCall g ga ls) st E Q := we_bind h
instance i_we_call {g : List IV → M IV} : Rule (we (mCall g ga ls) st E Q) (we (ga ls) st E fun l st1 => we (g l) st1 E Q) := ⟨we_call⟩
theorem we_pv1 {o : Sto → IV → Option IV} {a v : IV} (e : o st a = some v) (q : Q v st) : we (pv1 o [a]) st E Q := ⟨.val v, st, by unfold pv1; simp only [e]; rfl, q⟩
theorem we_callD {n : Nat} {g : List IV → M IV} (h : we (ga ls) st E fun l st1 => l.length = n ∧ we (g l) st1 E Q) : we (mCallD n g ga ls) st E Q :=
  we_bind (we_mono h fun l st1 ⟨z, q⟩ => by rw [if_pos z]; exact q)
instance i_we_callD {n : Nat} {g : List IV → M IV} : Rule (we (mCallD n g ga ls) st E Q) (we (ga ls) st E fun l st1 => l.length = n ∧ we (g l) st1 E Q) := ⟨we_callD⟩
theorem we_isi {T : Ty} (h : we (m ls) st E fun v st1 => ∃ t, tyI st1 v = some t ∧ Q (.bl (t.isa T)) st1) : we (mIsi T m ls) st E Q :=
  we_bind (we_mono h fun v st1 ⟨t, e, q⟩ => ⟨.val (.bl (t.isa T)), st1, by unfold isiM; rw [e]; rfl, q⟩)
instance i_we_isi {T : Ty} : Rule (we (mIsi T m ls) st E Q) (we (m ls) st E fun v st1 => ∃ t, tyI st1 v = some t ∧ Q (.bl (t.isa T)) st1) := ⟨we_isi⟩
theorem we_isC {c : Str} {os : List Str} (h : we (m ls) st E fun v st1 => ∃ t b, tyA st1 v = some t ∧ isC c os t = some b ∧ Q (.bl b) st1) : we (mIsC c os m ls) st E Q :=
  we_bind (we_mono h fun v st1 ⟨t, b, e, e2, q⟩ => ⟨.val (.bl b), st1, by unfold isCM; rw [e]; show ((isC c os t).map fun b => (OX.val (IV.bl b), st1)) = _; rw [e2]; rfl, q⟩)
instance i_we_isC {c : Str} {os : List Str} : Rule (we (mIsC c os m ls) st E Q) (we (m ls) st E fun v st1 => ∃ t b, tyA st1 v = some t ∧ isC c os t = some b ∧ Q (.bl b) st1) := ⟨we_isC⟩
theorem we_fld {c f : Str} (h : we (m ls) st E fun v st1 => ∃ w, fldM c f v st1 = some (.val w, st1) ∧ Q w st1) : we (mFld c f m ls) st E Q :=
  we_bind (we_mono h fun v st1 ⟨w, e, q⟩ => ⟨.val w, st1, e, q⟩)
instance i_we_fld {c f : Str} : Rule (we (mFld c f m ls) st E Q) (we (m ls) st E fun v st1 => ∃ w, fldM c f v st1 = some (.val w, st1) ∧ Q w st1) := ⟨we_fld⟩
theorem we_recv {n : Nat} {k : List IV} {Q : IV → Sto → Prop} (e : st[n]? = some (.lst k)) (q : Q (.cell n) st) : we (recvM (.cell n)) st E Q := ⟨.val (.cell n), st, by unfold recvM lstOf; simp only [e], q⟩
theorem we_mt {o : IV → List IV → M IV} (h : we (m ls) st E fun v st1 => ∃ n k, v = .cell n ∧ st1[n]? = some (.lst k) ∧ we (ga ls) st1 E fun l st2 => we (o (.cell n) l) st2 E Q) : we (mMt o m ga ls) st E Q :=
  we_bind (we_mono h fun v st1 ⟨n, k, e, z, h1⟩ => by
    subst e
    exact we_bind (we_recv z (we_bind h1)))
instance i_we_mt {o : IV → List IV → M IV} : Rule (we (mMt o m ga ls) st E Q) (we (m ls) st E fun v st1 => ∃ n k, v = .cell n ∧ st1[n]? = some (.lst k) ∧ we (ga ls) st1 E fun l st2 => we (o (.cell n) l) st2 E Q) := ⟨we_mt⟩
theorem we_app {n : Nat} {k : List IV} {x : IV} (e : st[n]? = some (.lst k)) (p : x.pure = true) (z : k.length < 16777216) (q : Q .non (st.set n (.lst (k ++ [x])))) : we (appM (.cell n) [x]) st E Q :=
  ⟨.val .non, _, by unfold appM; simp only [e, p, z, and_self, if_true], q⟩
theorem we_noPart {Q : Option Int → Sto → Prop} (q : Q none st) : we (mNoPart ls) st E Q := ⟨_, _, rfl, q⟩
instance i_we_noPart {Q : Option Int → Sto → Prop} : Rule (we (mNoPart ls) st E Q) (Q none st) := ⟨we_noPart⟩
theorem we_part {Q : Option Int → Sto → Prop} (h : we (m ls) st E fun v st1 => ∃ i, v = .int i ∧ Q (some i) st1) : we (mPart m ls) st E Q :=
  we_bind (we_mono h fun v st1 ⟨i, e, q⟩ => by subst e; exact ⟨_, _, rfl, q⟩)
instance i_we_part {Q : Option Int → Sto → Prop} : Rule (we (mPart m ls) st E Q) (we (m ls) st E fun v st1 => ∃ i, v = .int i ∧ Q (some i) st1) := ⟨we_part⟩
theorem we_sl {b : Bool} {lo hi : MO} (h : we (m ls) st E fun v st1 => we (lo ls) st1 E fun l st2 => we (hi ls) st2 E fun h st3 => we (slM b v l h) st3 E Q) : we (mSl b m lo hi ls) st E Q :=
  we_bind (we_mono h fun v st1 h1 => we_bind (we_mono h1 fun l st2 h2 => we_bind h2))
instance i_we_sl {b : Bool} {lo hi : MO} : Rule (we (mSl b m lo hi ls) st E Q) (we (m ls) st E fun v st1 => we (lo ls) st1 E fun l st2 => we (hi ls) st2 E fun h st3 => we (slM b v l h) st3 E Q) := ⟨we_sl⟩
theorem we_lc {b : Bool} {src : MI} {vs : List Nat} {t : MG} (h : we (src ls) st E fun p st1 => we (compL t tc m p.1 p.2 (wipeI ls vs) p.1) st1 noX fun l st2 => l.length ≤ 16777215 ∧ we (newL b l) st2 E Q) : we (mLc b src vs t tc m ls) st E Q :=
  we_bind (we_mono h fun p st1 h1 => we_bind (we_noxM (we_mono h1 fun l st2 ⟨z, q⟩ => by rw [if_pos z]; exact q)))
instance i_we_lc {b : Bool} {src : MI} {vs : List Nat} {t : MG} : Rule (we (mLc b src vs t tc m ls) st E Q) (we (src ls) st E fun p st1 => we (compL t tc m p.1 p.2 (wipeI ls vs) p.1) st1 noX fun l st2 => l.length ≤ 16777215 ∧ we (newL b l) st2 E Q) := ⟨we_lc⟩
theorem compL_inv {t : MG} {l0 : List IV} {k : Option Nat} {Q : List IV → Sto → Prop} (I : List IV → List IV → Sto → Prop)
    (nil : ∀ acc st, I [] acc st → srcOk k l0 st) (step : ∀ v r acc st, I (v :: r) acc st → srcOk k l0 st ∧ ∃ ls1, t ls v = some ls1 ∧ we (tc ls1) st noX fun b st1 => (b = true → we (m ls1) st1 noX fun y st2 => I r (acc ++ [y]) st2) ∧ (b = false → I r acc st1)) :
    ∀ (r acc : List IV) (st : Sto), I r acc st → (∀ l st', I [] (acc ++ l) st' → Q l st') → we (compL t tc m l0 k ls r) st noX Q
  | [], acc, st, h, q => ⟨.val [], st, by unfold compL; rw [if_pos (nil _ _ h)], q [] st (by simpa using h)⟩
  | v :: r, acc, st, h, q => by
    obtain ⟨z, ls1, e, hw⟩ := step v r acc st h
    have key : we (M.bind (M.nox (tc ls1)) fun b => if b = true then M.bind (M.nox (m ls1)) fun y => M.bind (compL t tc m l0 k ls r) fun ys => M.ret (y :: ys) else compL t tc m l0 k ls r) st noX Q := by
      refine we_bind (we_noxM (we_mono hw fun b st1 ⟨h1, h2⟩ => ?_))
      cases b with
      | true =>
        refine we_bind (we_noxM (we_mono (h1 rfl) fun y st2 hy => we_bind (we_mono (compL_inv I nil step r (acc ++ [y]) st2 hy (Q := fun l st' => I [] (acc ++ [y] ++ l) st') fun l st' h => h) fun l st3 h3 => ?_)))
        exact ⟨_, _, rfl, q _ _ (by simpa using h3)⟩
      | false => exact compL_inv I nil step r acc st1 (h2 rfl) q
    obtain ⟨r1, s1, e1, q1⟩ := key
    exact ⟨r1, s1, by unfold compL; rw [if_pos z, e]; exact e1, q1⟩
theorem compL_pure {t : MG} {l0 : List IV} {k : Option Nat} {Q : List IV → Sto → Prop} {r : List IV} (pc : IV → Bool) (pe : IV → IV) (z : srcOk k l0 st) (step : ∀ v ∈ r, ∃ ls1, t ls v = some ls1 ∧ tc ls1 st = some (.val (pc v), st) ∧ (pc v = true → m ls1 st = some (.val (pe v), st)))
    (q : Q ((r.filter pc).map pe) st) : we (compL t tc m l0 k ls r) st noX Q := by
  refine ⟨.val ((r.filter pc).map pe), st, ?_, q⟩
  clear q
  induction r with
  | nil => unfold compL; rw [if_pos z]; rfl
  | cons v r ih =>
    obtain ⟨ls1, e1, e2, e3⟩ := step v List.mem_cons_self
    have ih' := ih fun w hw => step w (List.mem_cons_of_mem _ hw)
    unfold compL
    rw [if_pos z, e1]
    show M.bind (M.nox (tc ls1)) _ st = _
    rw [M.bind_run (M.nox_run e2)]
    cases q : pc v with
    | true =>
      rw [if_pos rfl, M.bind_run (M.nox_run (e3 q)), M.bind_run ih', List.filter_cons_of_pos q]
      rfl
    | false =>
      rw [if_neg (by decide), List.filter_cons_of_neg (by rw [q]; decide)]
      exact ih'
theorem we_src {QS : Src → Sto → Prop} (h : we (m ls) st E fun v st1 => ∃ p, srcM v st1 = some (.val p, st1) ∧ QS p st1) : we (mSrc m ls) st E QS := we_bind (we_mono h fun v st1 ⟨p, e, q⟩ => ⟨_, _, e, q⟩)
instance i_we_src {QS : Src → Sto → Prop} : Rule (we (mSrc m ls) st E QS) (we (m ls) st E fun v st1 => ∃ p, srcM v st1 = some (.val p, st1) ∧ QS p st1) := ⟨we_src⟩
theorem we_rng1 {QS : Src → Sto → Prop} (h : we (ga ls) st E fun l st1 => ∃ j, l = [.int j] ∧ (-(2 ^ 62) ≤ j ∧ j < 2 ^ 62) ∧ QS (rangeI 0 j.toNat, none) st1) : we (mRng1 ga ls) st E QS :=
  we_bind (we_mono h fun v st1 ⟨j, e, z, q⟩ => by subst e; exact ⟨.val (rangeI 0 j.toNat, none), st1, by unfold rng1M; simp only [z, and_self, if_true], q⟩)
instance i_we_rng1 {QS : Src → Sto → Prop} : Rule (we (mRng1 ga ls) st E QS) (we (ga ls) st E fun l st1 => ∃ j, l = [.int j] ∧ (-(2 ^ 62) ≤ j ∧ j < 2 ^ 62) ∧ QS (rangeI 0 j.toNat, none) st1) := ⟨we_rng1⟩
theorem we_seq (h : we (f ls) st E fun fl st1 => match fl with | .nx ls' => we (g ls') st1 E QF | fl => QF fl st1) : we (mSeq f g ls) st E QF :=
  we_bind (we_mono h fun fl st1 h1 => by
    cases fl with
    | nx ls' => exact h1
    | rt v => exact ⟨_, _, rfl, h1⟩
    | bk l => exact ⟨_, _, rfl, h1⟩
    | ct l => exact ⟨_, _, rfl, h1⟩
    | ex l c f v => exact ⟨_, _, rfl, h1⟩)
instance i_we_seq  : Rule (we (mSeq f g ls) st E QF) (we (f ls) st E fun fl st1 => match fl with | .nx ls' => we (g ls') st1 E QF | fl => QF fl st1) := ⟨we_seq⟩
theorem we_pass (q : QF (.nx ls) st) : we (mPass ls) st E QF := ⟨_, _, rfl, q⟩
instance i_we_pass  : Rule (we (mPass ls) st E QF) (QF (.nx ls) st) := ⟨we_pass⟩
theorem we_expr (h : we (m ls) st (fun c f v st1 => QF (.ex ls c f v) st1) fun _ st1 => QF (.nx ls) st1) : we (mExpr m ls) st E QF := we_lift (we_mono h fun _ _ q => ⟨_, _, rfl, q⟩)
instance i_we_expr  : Rule (we (mExpr m ls) st E QF) (we (m ls) st (fun c f v st1 => QF (.ex ls c f v) st1) fun _ st1 => QF (.nx ls) st1) := ⟨we_expr⟩
theorem we_rt (h : we (m ls) st (fun c f v st1 => QF (.ex ls c f v) st1) fun v st1 => QF (.rt v) st1) : we (mRet m ls) st E QF := we_lift (we_mono h fun _ _ q => ⟨_, _, rfl, q⟩)
instance i_we_rt  : Rule (we (mRet m ls) st E QF) (we (m ls) st (fun c f v st1 => QF (.ex ls c f v) st1) fun v st1 => QF (.rt v) st1) := ⟨we_rt⟩
theorem we_if (h : we (tc ls) st (fun c f v st1 => QF (.ex ls c f v) st1) fun b st1 => (b = true → we (f ls) st1 E QF) ∧ (b = false → we (g ls) st1 E QF)) : we (mIfS tc f g ls) st E QF :=
  we_lift (we_mono h fun b st1 ⟨h1, h2⟩ => by
    cases b with
    | true => exact h1 rfl
    | false => exact h2 rfl)
instance i_we_if  : Rule (we (mIfS tc f g ls) st E QF) (we (tc ls) st (fun c f v st1 => QF (.ex ls c f v) st1) fun b st1 => (b = true → we (f ls) st1 E QF) ∧ (b = false → we (g ls) st1 E QF)) := ⟨we_if⟩
theorem we_set {i : Nat} (h : we (m ls) st (fun c f v st1 => QF (.ex ls c f v) st1) fun v st1 => QF (.nx (ls.set i (some v))) st1) : we (mSet i m ls) st E QF := we_lift (we_mono h fun _ _ q => ⟨_, _, rfl, q⟩)
instance i_we_set {i : Nat} : Rule (we (mSet i m ls) st E QF) (we (m ls) st (fun c f v st1 => QF (.ex ls c f v) st1) fun v st1 => QF (.nx (ls.set i (some v))) st1) := ⟨we_set⟩
theorem we_par {is : List Nat} (h : we (ga ls) st (fun c f v st1 => QF (.ex ls c f v) st1) fun l st1 => ∃ ls', setAll is l ls = some ls' ∧ QF (.nx ls') st1) : we (mPar is ga ls) st E QF :=
  we_lift (we_mono h fun v st1 ⟨ls', e, q⟩ => ⟨.val (.nx ls'), st1, by rw [e]; rfl, q⟩)
instance i_we_par {is : List Nat} : Rule (we (mPar is ga ls) st E QF) (we (ga ls) st (fun c f v st1 => QF (.ex ls c f v) st1) fun l st1 => ∃ ls', setAll is l ls = some ls' ∧ QF (.nx ls') st1) := ⟨we_par⟩
theorem we_put {i : ME} (h : we (m ls) st (fun c f v st1 => QF (.ex ls c f v) st1) fun v st1 => we (fa ls) st1 (fun c f v st1 => QF (.ex ls c f v) st1) fun a st2 => we (i ls) st2 (fun c f v st1 => QF (.ex ls c f v) st1) fun k st3 =>
    ∃ n j k' l, a = .cell n ∧ k = .int j ∧ st3[n]? = some (.lst l) ∧ ixN l.length j = some k' ∧ v.pure = true ∧ QF (.nx ls) (st3.set n (.lst (l.set k' v)))) : we (mPut fa i m ls) st E QF :=
  we_lift (we_bind (we_mono h fun v st1 h1 => we_bind (we_mono h1 fun a st2 h2 => we_bind (we_mono h2 fun k st3 ⟨n, j, k', l, ea, ek, e1, e2, p, q⟩ => by
    subst ea ek
    exact ⟨.val (), _, by unfold putM; simp only [e1, e2, p, if_true], ⟨_, _, rfl, q⟩⟩))))
instance i_we_put {i : ME} : Rule (we (mPut fa i m ls) st E QF) (we (m ls) st (fun c f v st1 => QF (.ex ls c f v) st1) fun v st1 => we (fa ls) st1 (fun c f v st1 => QF (.ex ls c f v) st1) fun a st2 => we (i ls) st2 (fun c f v st1 => QF (.ex ls c f v) st1) fun k st3 =>
    ∃ n j k' l, a = .cell n ∧ k = .int j ∧ st3[n]? = some (.lst l) ∧ ixN l.length j = some k' ∧ v.pure = true ∧ QF (.nx ls) (st3.set n (.lst (l.set k' v)))) := ⟨we_put⟩
theorem we_raise {c fd : Str} (h : we (m ls) st (fun c f v st1 => QF (.ex ls c f v) st1) fun v st1 => QF (.ex ls c fd v) st1) : we (mRaise c fd m ls) st E QF := we_lift (we_mono h fun _ _ q => ⟨_, _, rfl, q⟩)
instance i_we_raise {c fd : Str} : Rule (we (mRaise c fd m ls) st E QF) (we (m ls) st (fun c f v st1 => QF (.ex ls c f v) st1) fun v st1 => QF (.ex ls c fd v) st1) := ⟨we_raise⟩
theorem we_for {src : MI} {t : MG} (h : we (src ls) st (fun c f v st1 => QF (.ex ls c f v) st1) fun p st1 => we (forL t f p.1 p.2 p.1 ls) st1 E QF) : we (mFor src t f ls) st E QF := we_lift h
instance i_we_for {src : MI} {t : MG} : Rule (we (mFor src t f ls) st E QF) (we (src ls) st (fun c f v st1 => QF (.ex ls c f v) st1) fun p st1 => we (forL t f p.1 p.2 p.1 ls) st1 E QF) := ⟨we_for⟩
theorem forL_inv {t : MG} {l0 : List IV} {k : Option Nat} (I : List IV → Loc → Sto → Prop) (nil : ∀ ls st, I [] ls st → srcOk k l0 st ∧ QF (.nx ls) st)
    (step : ∀ v r ls st, I (v :: r) ls st → srcOk k l0 st ∧ ∃ ls1, t ls v = some ls1 ∧ we (f ls1) st E fun fl st1 => match fl with
      | .nx ls2 => I r ls2 st1
      | .ct ls2 => I r ls2 st1
      | .bk ls2 => QF (.nx ls2) st1
      | fl => QF fl st1) : ∀ (r : List IV) (ls : Loc) (st : Sto), I r ls st → we (forL t f l0 k r ls) st E QF
  | [], ls, st, h => ⟨.val (.nx ls), st, by unfold forL; rw [if_pos (nil _ _ h).1], (nil _ _ h).2⟩
  | v :: r, ls, st, h => by
    obtain ⟨z, ls1, e, hw⟩ := step v r ls st h
    have key := we_bind (k := fun fl => match fl with
      | .nx ls2 => forL t f l0 k r ls2
      | .ct ls2 => forL t f l0 k r ls2
      | .bk ls2 => M.ret (.nx ls2)
      | fl => M.ret fl) (R := QF) (we_mono hw fun fl st1 h1 => by
      cases fl with
      | nx ls2 => exact forL_inv I nil step r ls2 st1 h1
      | ct ls2 => exact forL_inv I nil step r ls2 st1 h1
      | bk ls2 => exact ⟨_, _, rfl, h1⟩
      | rt v => exact ⟨_, _, rfl, h1⟩
      | ex l c f v => exact ⟨_, _, rfl, h1⟩)
    obtain ⟨r1, s1, e1, q1⟩ := key
    exact ⟨r1, s1, by unfold forL; rw [if_pos z, e]; exact e1, q1⟩
end
def closeP (keep : Bool) (k : Nat) (Q : IV → Sto → Prop) (v : IV) (st : Sto) : Prop := ∃ w st', closeM keep k v st = some (.val w, st') ∧ Q w st'
theorem we_fin {keep : Bool} {n : Nat} {body : MS} {l : List IV} {st : Sto} {E : EX} {Q : IV → Sto → Prop} (h : we (body (l.map some ++ List.replicate (n - l.length) none)) st noX fun fl st1 => match fl with
    | .nx _ => closeP keep st.length Q .non st1
    | .rt v => closeP keep st.length Q v st1
    | .ex _ c f v => (st1.length = st.length ∧ E c f v st1) ∨ (st1.length ≠ st.length ∧ v.pure = true ∧ E c f v (st1.take st.length))
    | _ => False) : we (finM keep n body l) st E Q := by
  obtain ⟨r, st1, e, q⟩ := h
  cases r with
  | exc c f v => exact q.elim
  | val fl =>
    cases fl with
    | nx ls =>
      obtain ⟨w, st', e2, q2⟩ := q
      exact ⟨.val w, st', by unfold finM; rw [e]; exact e2, q2⟩
    | rt v =>
      obtain ⟨w, st', e2, q2⟩ := q
      exact ⟨.val w, st', by unfold finM; rw [e]; exact e2, q2⟩
    | bk ls => exact q.elim
    | ct ls => exact q.elim
    | ex ls c f v =>
      rcases q with ⟨z, q⟩ | ⟨z, p, q⟩
      · exact ⟨.exc c f v, st1, by unfold finM; rw [e]; simp only [z, if_true], q⟩
      · exact ⟨.exc c f v, st1.take st.length, by unfold finM; rw [e]; simp only [z, if_false, p, if_true], q⟩
section
variable {keep : Bool} {k : Nat} {st : Sto} {Q : IV → Sto → Prop} {v : IV}
theorem close_len (h : st.length = k) (q : Q v st) : closeP keep k Q v st := ⟨v, st, by unfold closeM; rw [if_pos (.inr h)], q⟩
theorem close_keep (q : Q v st) : closeP true k Q v st := ⟨v, st, by unfold closeM; rw [if_pos (.inl rfl)], q⟩
theorem close_pure (p : v.pure = true) (q : Q v (st.take k)) (h : k ≤ st.length) : closeP false k Q v st := by
  by_cases e : st.length = k
  · refine close_len e ?_
    rw [List.take_of_length_le (Nat.le_of_eq e)] at q
    exact q
  · refine ⟨v, st.take k, ?_, q⟩
    unfold closeM
    rw [if_neg (by simp [e])]
    cases v with
    | cell n => simp [IV.pure] at p
    | _ => exact if_pos p
end
end MK
namespace MK
open PySem L2
section
variable {st : Sto} {Q : IV → Prop} {i j : Int} {l k : List IV} {a v : IV} {n : Nat} {x y : Str} {b : Bool}
theorem o_add (q : Q (.int (i + j))) : ∃ v, addI st (.int i) (.int j) = some v ∧ Q v := ⟨_, rfl, q⟩
instance i_o_add  : Rule (∃ v, addI st (.int i) (.int j) = some v ∧ Q v) (Q (.int (i + j))) := ⟨o_add⟩
theorem o_addT (h : l.length + k.length ≤ 16777216) (q : Q (.tup (l ++ k))) : ∃ v, addI st (.tup l) (.tup k) = some v ∧ Q v := ⟨.tup (l ++ k), by simp only [addI, h, if_true], q⟩
theorem o_sub (q : Q (.int (i - j))) : ∃ v, subI st (.int i) (.int j) = some v ∧ Q v := ⟨_, rfl, q⟩
instance i_o_sub  : Rule (∃ v, subI st (.int i) (.int j) = some v ∧ Q v) (Q (.int (i - j))) := ⟨o_sub⟩
theorem log2_lt {m : Int} {k : Nat} (h : m.natAbs < 2 ^ k) (hk : 0 < k) : m.natAbs.log2 < k := by
  by_cases z : m.natAbs = 0
  · rw [z]; simpa using hk
  · exact (Nat.log2_lt z).mpr h
theorem o_mul (h1 : -(2 ^ 200) < i ∧ i < 2 ^ 200) (h2 : -(2 ^ 200) < j ∧ j < 2 ^ 200) (q : Q (.int (i * j))) : ∃ v, mulI st (.int i) (.int j) = some v ∧ Q v := by
  refine ⟨_, ?_, q⟩
  have l1 : i.natAbs.log2 < 200 := log2_lt (by omega) (by decide)
  have l2 : j.natAbs.log2 < 200 := log2_lt (by omega) (by decide)
  simp only [mulI]
  rw [if_pos (by omega)]
theorem o_div (h : 0 < j ∧ j < 2 ^ 200) (q : Q (.int (i / j))) : ∃ v, fdivI st (.int i) (.int j) = some v ∧ Q v := by
  have l2 : j.natAbs.log2 < 200 := log2_lt (by omega) (by decide)
  exact ⟨_, by simp only [fdivI]; rw [if_pos ⟨h.1, by omega⟩], q⟩
theorem o_mod (h : 0 < j) (q : Q (.int (i % j))) : ∃ v, modI st (.int i) (.int j) = some v ∧ Q v := ⟨_, by simp only [modI]; rw [if_pos h], q⟩
theorem o_pow (h : 0 ≤ j ∧ j ≤ 1000000) (h2 : -(2 ^ 64) < i ∧ i < 2 ^ 64) (q : Q (.int (i ^ j.toNat))) : ∃ v, powI st (.int i) (.int j) = some v ∧ Q v := ⟨_, by simp only [powI]; rw [if_pos ⟨h.1, h.2, by omega⟩], q⟩
theorem o_cmp {p : Int → Int → Bool} (q : Q (.bl (p i j))) : ∃ v, cmpI p st (.int i) (.int j) = some v ∧ Q v := ⟨_, rfl, q⟩
instance i_o_cmp {p : Int → Int → Bool} : Rule (∃ v, cmpI p st (.int i) (.int j) = some v ∧ Q v) (Q (.bl (p i j))) := ⟨o_cmp⟩
theorem o_neg (q : Q (.int (-i))) : ∃ v, negI (.int i) = some v ∧ Q v := ⟨_, rfl, q⟩
instance i_o_neg  : Rule (∃ v, negI (.int i) = some v ∧ Q v) (Q (.int (-i))) := ⟨o_neg⟩
theorem o_ixT (h : atI l i = some v) (q : Q v) : ∃ w, itemI st (.tup l) (.int i) = some w ∧ Q w := ⟨v, by simp only [itemI, asSeq, Option.bind]; exact h, q⟩
theorem o_ixL (h : atI l i = some v) (q : Q v) : ∃ w, itemI st (.lst l) (.int i) = some w ∧ Q w := ⟨v, by simp only [itemI, asSeq, lstOf, Option.bind]; exact h, q⟩
theorem o_ixS (h : atI l i = some v) (q : Q v) : ∃ w, itemI st (.scr l) (.int i) = some w ∧ Q w := ⟨v, by simp only [itemI, asSeq, Option.bind]; exact h, q⟩
theorem o_ixC (e : st[n]? = some (.lst l)) (h : atI l i = some v) (q : Q v) : ∃ w, itemI st (.cell n) (.int i) = some w ∧ Q w := ⟨v, by simp only [itemI, asSeq, lstOf, e, Option.bind]; exact h, q⟩
theorem atI_get {α : Type} {l : List α} {i : Int} {v : α} (h0 : 0 ≤ i) (h1 : l[i.toNat]? = some v) : atI l i = some v := by
  have hlt := (List.getElem?_eq_some_iff.mp h1).1
  unfold atI ixN
  rw [if_pos h0, if_pos (by omega)]
  exact h1
end
section
variable {st : Sto} {Q : Bool → Prop} {l : List IV} {b : Bool} {n : Nat}
theorem t_bl {E : EX} (q : Q b) : ∃ c, truthI st (.bl b) = some c ∧ Q c := ⟨_, rfl, q⟩
instance i_t_bl : Rule (∃ c, truthI st (.bl b) = some c ∧ Q c) (Q b) := ⟨t_bl (E := noX)⟩
theorem b_bl (q : Q b) : ∃ c, IV.bl b = .bl c ∧ Q c := ⟨_, rfl, q⟩
instance i_b_bl  : Rule (∃ c, IV.bl b = .bl c ∧ Q c) (Q b) := ⟨b_bl⟩
end
theorem way_t {b : Bool} {A B : Prop} (e : b = true) (h : A) : (b = true → A) ∧ (b = false → B) := ⟨fun _ => h, fun z => by (rw [e] at z; cases z)⟩
theorem way_f {b : Bool} {A B : Prop} (e : b = false) (h : B) : (b = true → A) ∧ (b = false → B) := ⟨fun z => by (rw [e] at z; cases z), fun _ => h⟩
theorem we_def {keep : Bool} {n : Nat} {body : MS} {l : List IV} {ls : Loc} {st : Sto} {E : EX} {Q : IV → Sto → Prop} (e : l.map some ++ List.replicate (n - l.length) none = ls) (h : we (body ls) st noX fun fl st1 => match fl with
    | .nx _ => closeP keep st.length Q .non st1
    | .rt v => closeP keep st.length Q v st1
    | .ex _ c f v => (st1.length = st.length ∧ E c f v st1) ∨ (st1.length ≠ st.length ∧ v.pure = true ∧ E c f v (st1.take st.length))
    | _ => False) : we (finM keep n body l) st E Q := we_fin (e ▸ h)
end MK
namespace MK
open PySem L2
section
variable {st : Sto} {E : EX} {Q : IV → Sto → Prop} {QF : Unit → Sto → Prop} {i j : Int} {l k : List IV} {a v : IV} {n : Nat} {b : Bool}
theorem we_int (q : Q (.int i) st) : we (pv1 intI [.int i]) st E Q := we_pv1 rfl q
instance i_we_int  : Rule (we (pv1 intI [.int i]) st E Q) (Q (.int i) st) := ⟨we_int⟩
theorem we_intB (q : Q (.int (if b then 1 else 0)) st) : we (pv1 intI [.bl b]) st E Q := we_pv1 rfl q
instance i_we_intB  : Rule (we (pv1 intI [.bl b]) st E Q) (Q (.int (if b then 1 else 0)) st) := ⟨we_intB⟩
theorem we_abs (q : Q (.int (if i < 0 then -i else i)) st) : we (pv1 absI [.int i]) st E Q := we_pv1 rfl q
instance i_we_abs  : Rule (we (pv1 absI [.int i]) st E Q) (Q (.int (if i < 0 then -i else i)) st) := ⟨we_abs⟩
theorem we_lenT (q : Q (.int l.length) st) : we (pv1 lenI [.tup l]) st E Q := we_pv1 rfl q
instance i_we_lenT  : Rule (we (pv1 lenI [.tup l]) st E Q) (Q (.int l.length) st) := ⟨we_lenT⟩
theorem we_lenL (q : Q (.int l.length) st) : we (pv1 lenI [.lst l]) st E Q := we_pv1 rfl q
instance i_we_lenL  : Rule (we (pv1 lenI [.lst l]) st E Q) (Q (.int l.length) st) := ⟨we_lenL⟩
theorem we_lenS (q : Q (.int l.length) st) : we (pv1 lenI [.scr l]) st E Q := we_pv1 rfl q
instance i_we_lenS  : Rule (we (pv1 lenI [.scr l]) st E Q) (Q (.int l.length) st) := ⟨we_lenS⟩
theorem we_lenC (e : st[n]? = some (.lst l)) (q : Q (.int l.length) st) : we (pv1 lenI [.cell n]) st E Q := we_pv1 (by simp only [lenI, asSeq, lstOf, e]; rfl) q
theorem we_tupleT (q : Q (.tup l) st) : we (pv1 tupleI [.tup l]) st E Q := we_pv1 rfl q
instance i_we_tupleT  : Rule (we (pv1 tupleI [.tup l]) st E Q) (Q (.tup l) st) := ⟨we_tupleT⟩
theorem we_tupleL (q : Q (.tup l) st) : we (pv1 tupleI [.lst l]) st E Q := we_pv1 rfl q
instance i_we_tupleL  : Rule (we (pv1 tupleI [.lst l]) st E Q) (Q (.tup l) st) := ⟨we_tupleL⟩
theorem we_tupleC (e : st[n]? = some (.lst l)) (q : Q (.tup l) st) : we (pv1 tupleI [.cell n]) st E Q := we_pv1 (by simp only [tupleI, seqL, lstOf, e]; rfl) q
theorem we_sort {c : Bool} {ns : List Int} (h : we (newL c ((sortI ns).map .int)) st E Q) (e : intsOf l = some ns) : we (sortM c [.lst l]) st E Q := by
  obtain ⟨r, st', e1, q⟩ := h
  refine ⟨r, st', ?_, q⟩
  unfold sortM intsAt
  simp only [seqL, lstOf, Option.bind, e]
  exact e1
theorem we_allL {bs : List Bool} (e : boolsOf l = some bs) (q : Q (.bl (bs.all id)) st) : we (pv1 allI [.lst l]) st E Q := we_pv1 (by simp only [allI, boolsAt, seqL, lstOf, Option.bind, e]; rfl) q
theorem we_slT {lo hi : Option Int} {c : Bool} (q : Q (.tup (cutI l lo hi)) st) : we (slM c (.tup l) lo hi) st E Q := ⟨_, _, rfl, q⟩
instance i_we_slT {lo hi : Option Int} {c : Bool} : Rule (we (slM c (.tup l) lo hi) st E Q) (Q (.tup (cutI l lo hi)) st) := ⟨we_slT⟩
theorem we_slL {lo hi : Option Int} {c : Bool} (h : we (newL c (cutI l lo hi)) st E Q) : we (slM c (.lst l) lo hi) st E Q := h
instance i_we_slL {lo hi : Option Int} {c : Bool} : Rule (we (slM c (.lst l) lo hi) st E Q) (we (newL c (cutI l lo hi)) st E Q) := ⟨we_slL⟩
theorem we_slS {lo hi : Option Int} {c : Bool} (h : we (newL c (cutI l lo hi)) st E Q) : we (slM c (.scr l) lo hi) st E Q := h
instance i_we_slS {lo hi : Option Int} {c : Bool} : Rule (we (slM c (.scr l) lo hi) st E Q) (we (newL c (cutI l lo hi)) st E Q) := ⟨we_slS⟩
end
theorem set_get {st : Sto} {n : Nat} {c d : CV} (h : st[n]? = some d) : (st.set n c)[n]? = some c := List.getElem?_set_self (List.getElem?_eq_some_iff.mp h).1
structure Only1 (n : Nat) (st st' : Sto) : Prop where
  len : st'.length = st.length
  ne : ∀ m, m ≠ n → st'[m]? = st[m]?
theorem Only1.refl {n : Nat} {st : Sto} : Only1 n st st := ⟨rfl, fun _ _ => rfl⟩
theorem Only1.trans {n : Nat} {a b c : Sto} (h : Only1 n a b) (h' : Only1 n b c) : Only1 n a c := ⟨h'.len.trans h.len, fun m z => (h'.ne m z).trans (h.ne m z)⟩
theorem Only1.set {n : Nat} {st : Sto} {c : CV} : Only1 n st (st.set n c) := ⟨by simp, fun m h => List.getElem?_set_ne (Ne.symm h)⟩
end MK
namespace MK
theorem run_of {α : Type} {m : M α} {st : Sto} {a : α} (h : we m st noX fun v st' => v = a ∧ st' = st) : m st = some (.val a, st) := by
  obtain ⟨r, st', e, q⟩ := h
  cases r with
  | val v => obtain ⟨rfl, rfl⟩ := q; exact e
  | exc c f v => exact q.elim
theorem len_and {l : List IV} {n : Nat} {B : Prop} (h : l.length ≤ n) (b : B) : l.length ≤ n ∧ B := ⟨h, b⟩
theorem eq_and {l : List IV} {n : Nat} {B : Prop} (h : l.length = n) (b : B) : l.length = n ∧ B := ⟨h, b⟩
end MK
namespace MK
open PySem L2
theorem we_putF {st : Sto} {E : EX} {ls : Loc} {QF : Fl → Sto → Prop} {m fo : ME} {c f : Str} (h : we (m ls) st (fun c f v st1 => QF (.ex ls c f v) st1) fun v st1 => we (fo ls) st1 (fun c f v st1 => QF (.ex ls c f v) st1) fun a st2 =>
    ∃ n fs, a = .cell n ∧ st2[n]? = some (.ins c fs) ∧ v.pure = true ∧ fs.length < 1000 ∧ QF (.nx ls) (st2.set n (.ins c (putI f v fs)))) : we (mPutF c f fo m ls) st E QF :=
  we_lift (we_bind (we_mono h fun v st1 h1 => we_bind (we_mono h1 fun a st2 ⟨n, fs, ea, e1, p, z, q⟩ => by
    subst ea
    exact ⟨.val (), _, by unfold putFM; simp only [e1, p, z, and_self, if_true], ⟨_, _, rfl, q⟩⟩)))
instance i_we_putF {st : Sto} {E : EX} {ls : Loc} {QF : Fl → Sto → Prop} {m fo : ME} {c f : Str} : Rule (we (mPutF c f fo m ls) st E QF) (we (m ls) st (fun c f v st1 => QF (.ex ls c f v) st1) fun v st1 => we (fo ls) st1 (fun c f v st1 => QF (.ex ls c f v) st1) fun a st2 =>
    ∃ n fs, a = .cell n ∧ st2[n]? = some (.ins c fs) ∧ v.pure = true ∧ fs.length < 1000 ∧ QF (.nx ls) (st2.set n (.ins c (putI f v fs)))) := ⟨we_putF⟩
end MK
namespace MK
open PySem L2
section
variable {st : Sto} {E : EX} {ls : Loc} {Q : IV → Sto → Prop} {QF : Fl → Sto → Prop} {ga : MA} {c : Str} {n : Nat} {g : MF}
theorem we_make (h : we (ga ls) st E fun l st1 => l.length + 1 = n ∧ we (g (.cell st1.length :: l)) (st1 ++ [.ins c []]) (fun c' f v st' => v.pure = true ∧ E c' f v (st'.take st1.length))
    fun v st' => v = .non ∧ st'.length = st1.length + 1 ∧ ∃ c' fs, st'[st1.length]? = some (.ins c' fs) ∧ Q (.obj c' fs) (st'.take st1.length)) : we (mMake false c n g ga ls) st E Q :=
  we_bind (we_mono h fun l st1 ⟨z, hw⟩ => by
    obtain ⟨r, st', e, q⟩ := hw
    cases r with
    | exc c' f v => exact ⟨.exc c' f v, _, by unfold makeM; rw [if_pos z, e]; exact if_pos q.1, q.2⟩
    | val v =>
      obtain ⟨rfl, hl, c', fs, e2, q⟩ := q
      exact ⟨.val (.obj c' fs), _, by unfold makeM; rw [if_pos z, e]; simp only [hl, if_true, e2], q⟩)
theorem we_try {sub : Str → Str → Option Bool} {body : MS} {cl : List Cl} (h : we (body ls) st E fun fl st1 => match fl with
    | .ex ls' c f v => we (tryCl sub cl ls' c f v) st1 E QF
    | fl => QF fl st1) : we (mTry sub body cl ls) st E QF :=
  we_bind (we_mono h fun fl st1 q => by
    cases fl with
    | ex ls' c f v => exact q
    | nx l => exact ⟨_, _, rfl, q⟩
    | rt v => exact ⟨_, _, rfl, q⟩
    | bk l => exact ⟨_, _, rfl, q⟩
    | ct l => exact ⟨_, _, rfl, q⟩)
instance i_we_try {sub : Str → Str → Option Bool} {body : MS} {cl : List Cl} : Rule (we (mTry sub body cl ls) st E QF) (we (body ls) st E fun fl st1 => match fl with
    | .ex ls' c f v => we (tryCl sub cl ls' c f v) st1 E QF
    | fl => QF fl st1) := ⟨we_try⟩
theorem we_clR {sub : Str → Str → Option Bool} {x f : Str} {i : Nat} {fsu : Su} {r : List Cl} {v w : IV} {st1 : Sto} (e : sub c x = some true) (h : ∀ (a C d : Addr), fsu a (.ref C) (some d) (ls.set i (some (.exn a (.ref C) d f v c))) st = some (.val (.rt w), st1)) (q : QF (.rt w) st1) :
    we (tryCl sub ((x, i, fsu) :: r) ls c f v) st E QF := by
  refine ⟨.val (.rt w), st1, ?_, q⟩
  simp only [tryCl, e]
  rw [M.bind_run (runCl_eq h)]
  rfl
def xv : IV → Option (Addr × Value × Addr × Str × IV)
  | .exn a cls d f w _ => some (a, cls, d, f, w)
  | _ => none
theorem xv_eq {v w : IV} {a d : Addr} {cls : Value} {f : Str} (h : xv v = some (a, cls, d, f, w)) : ∃ c, v = .exn a cls d f w c := by
  cases v <;> simp only [xv] at h <;> cases h
  exact ⟨_, rfl⟩
theorem we_xf {a C d : Addr} {f : Str} {m : ME} (h : we (m ls) st E fun v st1 => ∃ w, xv v = some (a, .ref C, d, f, w) ∧ Q w st1) : we (mXf a (.ref C) (some d) f m ls) st E Q :=
  we_bind (we_mono h fun v st1 ⟨w, e, q⟩ => by
    obtain ⟨c, rfl⟩ := xv_eq e
    exact ⟨.val w, st1, by rw [xfM_run]; rfl, q⟩)
instance i_we_xf {a C d : Addr} {f : Str} {m : ME} : Rule (we (mXf a (.ref C) (some d) f m ls) st E Q) (we (m ls) st E fun v st1 => ∃ w, xv v = some (a, .ref C, d, f, w) ∧ Q w st1) := ⟨we_xf⟩
end
end MK
section
set_option maxHeartbeats 2000000
namespace MK
open PySem PySem.Spec PyProof.Rows L2
def insI (acc : List Int) (k : Int) : List Int := if k ∈ acc then acc else acc ++ [k]
def setH (w : World) (D : Addr) (acc : List Int) : HO := SetO w D (fun j => decide (j ∈ acc)) acc.length
structure MakS (K : PySem.W.Frag) (mg : Str → Option Value) (w : World) (cm : Wd) (H : Hp) (cm1 : Wd) (H1 : Hp) (st1 : Sto) (D : Addr) (acc : List Int) : Prop where
  ext : Ext cm H cm1 H1
  sto : RelS K mg cm1 st1 H1
  av : D ∈ cm1.av
  nc : D ∉ cm1.cm
  at' : H1 D = some (setH w D acc)
section
variable {K : PySem.W.Frag} {mg : Str → Option Value} {w : World} {H H1 : Hp} {cm cm1 : Wd} {st st1 : Sto} {D : Addr} {acc : List Int}
theorem MakS.mk0 (s : RelS K mg cm st H) (n : H D = none) : MakS K mg w cm H (cm.avoid D) (upd H D (setH w D [])) st D [] where
  ext := Ext.avoid n
  sto := by
    have E : Ext cm H (cm.avoid D) (upd H D (setH w D [])) := Ext.avoid n
    refine ⟨s.len, s.nd, fun i a c h1 h2 => (s.at' i a c h1 h2).ext E (upd_ne fun z => s.notCell n (z ▸ List.mem_of_getElem? h1)), fun a m => ?_⟩
    by_cases z : a = D
    · subst z; exact ⟨_, upd_same⟩
    · obtain ⟨o, q⟩ := s.avs a ((List.mem_cons.mp m).resolve_left z)
      exact ⟨o, (upd_ne z).trans q⟩
  av := List.mem_cons_self
  nc := s.notCell n
  at' := upd_same
theorem MakS.step (m : MakS K mg w cm H cm1 H1 st1 D acc) {cm2 : Wd} {H2 : Hp} {st2 : Sto} (E : Ext cm1 H1 cm2 H2) (s : RelS K mg cm2 st2 H2) : MakS K mg w cm H cm2 H2 st2 D acc :=
  ⟨m.ext.trans E, s, E.keep D m.av, E.new D _ m.at' m.nc, E.fr D _ m.at' m.nc⟩
theorem MakS.add (m : MakS K mg w cm H cm1 H1 st1 D acc) (n : H D = none) (k : Int) : MakS K mg w cm H cm1 (upd H1 D (setH w D (insI acc k))) st1 D (insI acc k) := by
  have T : Tr cm1 H1 cm1 (upd H1 D (setH w D (insI acc k))) := ⟨fun _ _ h => h, fun a o h na => ⟨(upd_ne (fun z : a = D => na (z ▸ m.av))).trans h, na⟩⟩
  refine ⟨⟨m.ext.pre, fun a o h na => (upd_ne (ne_of_none h n)).trans (m.ext.fr a o h na), m.ext.av, m.ext.new, m.ext.keep⟩, ⟨m.sto.len, m.sto.nd, fun i a c h1 h2 => (m.sto.at' i a c h1 h2).tr T (upd_ne fun z => m.nc (z ▸ List.mem_of_getElem? h1)), fun a h => ?_⟩, m.av, m.nc, upd_same⟩
  by_cases z : a = D
  · subst z; exact ⟨_, upd_same⟩
  · obtain ⟨o, q⟩ := m.sto.avs a h
    exact ⟨o, (upd_ne z).trans q⟩
theorem MakS.addTr (m : MakS K mg w cm H cm1 H1 st1 D acc) (k : Int) : Tr cm1 H1 cm1 (upd H1 D (setH w D (insI acc k))) :=
  ⟨fun _ _ h => h, fun a o h na => ⟨(upd_ne (fun z : a = D => na (z ▸ m.av))).trans h, na⟩⟩
end
theorem CT.sub {K : PySem.W.Frag} {mg : Str → Option Value} {vs vs' : List Nat} {t : MG} {g : TG} (h : CT K mg vs t g) (i : ∀ j ∈ vs, j ∈ vs') : CT K mg vs' t g :=
  fun x σ H Q cm ls v ls' R hx e k => h x σ H Q cm ls v ls' R hx e fun σ' R' hl hk => k σ' R' hl fun j hj => hk j fun z => hj (i j z)
end MK
end
section
set_option maxHeartbeats 2000000
namespace MK
open PySem PySem.Spec PyProof.Rows L2
theorem newEnum {v : Value} {o : Obj} {Hh : Heap → Prop} (B : Begins v o Hh) :
    Meets (Builtin.«enumerate.__new__» ⟨[.type "enumerate", v], []⟩) (fun _ R s => Hh s.heap ∧
      R (.ok (.ret (.ref (s.heap.push o).objs.size))) { s with heap := (s.heap.push o).push { cls := .type "enumerate", data := .fields #[.none, .bool false, .ref s.heap.objs.size, rawInt 0, .none, .none] } }) :=
  .of_wp fun prog w A R s h => by
    obtain ⟨hp, gs, dr, tk, os⟩ := s
    obtain ⟨h1, h2⟩ := h
    have hsub := sub_enumerate
    have it : ∀ {A' : Around} {E : Value → Shared → Prop} {Q : Value → Shared → Prop}, Q (.ref hp.objs.size) ⟨hp.push o, gs, dr, tk, os⟩ → wpAny (model prog w) A' (pyIter v) Q E ⟨hp, gs, dr, tk, os⟩ := fun q => B.iter prog w _ _ ⟨hp, gs, dr, tk, os⟩ _ h1 q
    wp_walk using it
    refine wpAny_stack_any fun st => wpAny_pure ?_
    split
    · rename_i c _ _ _ _ _
      cases (c == Value.type "enumerate") <;> (wp_walk using it; exact ⟨_, rfl, h2⟩)
    · wp_walk using it
      exact ⟨_, rfl, h2⟩
section
variable {P : Program} {w : World} {A : Around} {E : Value → Shared → Prop} {s : Shared}
theorem call_enum {v : Value} {o : Obj} {Hh : Heap → Prop} {Q : Value → Shared → Prop} (B : Begins v o Hh) (h1 : Hh s.heap)
    (h : ∀ h', IsEnum h' (s.heap.objs.size + 1) s.heap.objs.size 0 .none → h'.get? s.heap.objs.size = some o → (∀ b u, s.heap.get? b = some u → h'.get? b = some u) → Q (.ref (s.heap.objs.size + 1)) { s with heap := h' }) :
    wpAny (model P w) A (call (.type "enumerate") [v]) Q E s := by
  refine callType_new F.called_enumerate (by decide) (F.typeCall_enumerate_1 _) (F.newCall_enumerate_1 _) (fun obj => F.args_object_init_2 obj _) F.entry_enumerate_new (newEnum B) ⟨h1, ?_⟩
  have hz : (s.heap.push o).objs.size = s.heap.objs.size + 1 := Heap.size_push ..
  have he := Heap.get?_push_size (s.heap.push o) (o := { cls := .type "enumerate", data := .fields #[.none, .bool false, .ref s.heap.objs.size, rawInt 0, .none, .none] }) rfl
  rw [hz] at he
  rw [hz]
  exact ⟨⟨_, he, rfl⟩, h _ he (Heap.get?_push_of_some _ (Heap.get?_push_size _ B.free)) fun b u q => Heap.get?_push_of_some _ (Heap.get?_push_of_some _ q)⟩
end
def ItE (K : PySem.W.Frag) (a : Addr) (n : Nat) : It :=
  ⟨fun i H => ∃ (xs : List V) (x : V), SqT K H a xs ∧ xs.length = n ∧ xs[i]? = some x, fun i H v H' => ∃ T x, v = .ref T ∧ H T = none ∧ H' = upd H T (.tup [.int (i : Nat), x]) ∧ ∀ xs, SqT K H a xs → xs[i]? = some x, fun i H => n ≤ i ∧ ∃ xs : List V, SqT K H a xs ∧ xs.length = n⟩
theorem turn_enumT {P : Program} {w : World} {K : PySem.W.Frag} {elts : List Expr} {kk : Nat} {tpos : Pos} (a e it : Addr) (n : Nat) (hea : e ≠ a) (hia : it ≠ a) (hne : e ≠ it) :
    Turn P w K (.Tuple elts kk tpos) (ItE K a n) [e, it] e (fun i h => (∃ old, IsEnum h e it ((i : Nat) : Int) old) ∧ h.IsTupleIter it a i ∧ i ≤ n) where
  mem := List.mem_cons_self
  obj := fun i h st b hb => by
    obtain ⟨⟨old, he⟩, ⟨o, ho, hc, hd⟩, _⟩ := st
    rcases List.mem_cons.mp hb with z | z
    · subst z; exact ⟨_, he, fun v q => nomatch q⟩
    · have z := List.mem_singleton.mp z
      subst z; exact ⟨o, ho, fun v q => by rw [hd] at q; cases q⟩
  keep := fun i h h' st k => by
    obtain ⟨⟨old, he⟩, hi, hn⟩ := st
    exact ⟨⟨old, k e (by simp) _ he⟩, hi.at fun o q => k it (by simp) o q, hn⟩
  item := by
    intro X hP hw hK hc i pins s σ H E I hf st go
    subst hP hw hK
    obtain ⟨⟨old, he⟩, hit, hn⟩ := st
    obtain ⟨xs, x, hq, hl, hx⟩ := go
    have ltn : i < n := by rw [← hl]; exact (List.getElem?_eq_some_iff.mp hx).1
    obtain ⟨its, rv, tp, _⟩ := I.tuple hq
    obtain ⟨u, hu, ru⟩ := rv.get hx
    have ht : s.heap.IsTuple a its.toArray := tp
    have le : e < s.heap.objs.size := Heap.lt_size he
    have li : it < s.heap.objs.size := by obtain ⟨_, q, _⟩ := hit; exact Heap.lt_size q
    have ix : i < its.toArray.size := by
      have := (List.getElem?_eq_some_iff.mp hu).1
      simpa using this
    refine wpAny_pyNext_enum_itemD (Draws.tuple (A := X.A.in1) (I.ok.hd hc) it a (Ne.symm hia) its.toArray) he ⟨hit, ht⟩ ix hne (fun z => by
      rcases List.mem_cons.mp z with z | z
      · exact hne z
      · exact hea (List.mem_singleton.mp z)) fun y h' tk hy ho hst hT hsz hk => ?_
    have ey : y = u := by
      have hy : its.toArray[i]? = some y := hy
      rw [List.getElem?_toArray, hu] at hy
      exact (Option.some.inj hy).symm
    subst ey
    refine ⟨_, rfl, wpAny_letOwnedTupleGo_enum (s := { s with heap := h', toks := tk + 1 }) ho fun h'' he' sb => ?_⟩
    have hT2 := (sb.2 _ (Nat.ne_of_gt le)).trans hT
    have new : ObjOk X.prog X.w (upd H s.heap.objs.size (.tup [.int (i : Nat), x])) h'' s.heap.objs.size (.tup [.int (i : Nat), x]) :=
      ⟨by show 2 ≤ sizeLine; decide, [.int i tk, y], .cons ⟨_, rfl⟩ (.cons ru .nil), ⟨_, hT2, rfl, _, rfl⟩⟩
    have I1 : Inv X pins σ (upd H s.heap.objs.size (.tup [.int (i : Nat), x])) { s with heap := h'', toks := tk + 1 } := by
      refine I.turnedNew (ch := [e, it]) (fun b ob hb q => ?_) hf (Nat.le_refl _) new
      have b1 : b ≠ e := fun z => hb (by simp [z])
      have b2 : b ≠ it := fun z => hb (by simp [z])
      exact (sb.2 b b1).trans (hk b ob b1 b2 q)
    refine ⟨.ref s.heap.objs.size, _, I1, rfl, ⟨_, x, rfl, I.hok.fresh (Nat.le_refl _), rfl, fun ys hy => by rw [I.tuple_inj hy hq]; exact hx⟩, ⟨⟨y, ?_⟩, hst.1.at fun o q => (sb.2 it (Ne.symm hne)).trans q, ltn⟩, fun b hb => ?_⟩
    · rw [show ((i + 1 : Nat) : Int) = (i : Int) + 1 by omega]; exact he'
    · have lb : b < s.heap.objs.size := by
        rcases List.mem_cons.mp hb with z | z
        · subst z; exact le
        · rw [List.mem_singleton.mp z]; exact li
      exact (upd_ne (Nat.ne_of_lt lb)).trans (hf b hb).1
  done := by
    intro X hP hw hK hc i pins s σ H E I hf st go
    subst hP hw hK
    obtain ⟨⟨old, he⟩, hit, hn⟩ := st
    obtain ⟨hge, xs, hq, hx⟩ := go
    obtain ⟨its, rv, tp, _⟩ := I.tuple hq
    have ht : s.heap.IsTuple a its.toArray := tp
    obtain ⟨f0, f1, f2, f3, f4, f5⟩ := hf it (by simp)
    have el : its.toArray.size = i := by
      rw [List.size_toArray, ← rv.length, hx]; exact Nat.le_antisymm hge hn
    subst el
    exact wpAny_pyNext_enum_endD (Draws.tuple (A := X.A.in1) (I.ok.hd hc) it a (Ne.symm hia) its.toArray) he ⟨hit, ht⟩ fun h' eb => ⟨rfl, I.turned (t' := s.toks) (fun b o hb q => eb b o hb q) f0 f1 f3 f4 f5⟩
  self := fun A i s Q E st h => by
    obtain ⟨⟨_, he⟩, _⟩ := st
    exact wpAny_pyIter_enum he h
def iEnum2 (K : PySem.W.Frag) (ta : TA) : TI := fun σ H R => ta σ H fun vs H1 => ∃ a xs, vs = [.ref a] ∧ ((SqL K H1 a xs ∧ R (Ite K a) H1) ∨ (SqT K H1 a xs ∧ R (ItE K a xs.length) H1))
theorem pi_enum2 {X : Cx} {e : Expr} {ta : TA} {p pos tpos : Pos} {elts : List Expr} {kk : Nat} (hg : Gl X "enumerate") (hm : X.mg "enumerate" = none) (ha : PA X [e] ta) (hs : starEach [e] X.env = [(false, eval e X.env)] := by rfl) :
    PI X (.Tuple elts kk tpos) (.Call (.Name "enumerate" p) [e] [] pos) (iEnum2 X.K ta) := by
  refine ⟨fun pins s σ H R I h => ?_⟩
  refine Call_ (ld_blt I hg hm boot_enumerate (PyProof.Rows.callWith_type1 (thn (ha.run pos pins s σ H _ I h) fun us s1 h1 => ?_) hs rfl))
  obtain ⟨vs, H1, I1, r1, a, xs, ex, h1⟩ := h1
  subst ex
  rw [Vals.ref1 r1]
  have new : ∀ b, b ∈ [s1.heap.objs.size + 1, s1.heap.objs.size] → s1.heap.objs.size ≤ b := fun b hb => by
    rcases List.mem_cons.mp hb with z | z
    · rw [z]; exact Nat.le_succ _
    · rw [List.mem_singleton.mp z]; exact Nat.le_refl _
  rcases h1 with ⟨hq, q⟩ | ⟨hq, q⟩
  · obtain ⟨its, rv, lp, _⟩ := I1.list hq
    refine call_enumerate_list lp.isList fun h' he hit hsz hk => wpAny_pyIter_enum he ?_
    exact ⟨_, _, _, _, H1, rfl, I1.kept (t' := s1.toks) hk, turn_enum a (s1.heap.objs.size + 1) s1.heap.objs.size, ⟨⟨.none, he⟩, hit, Nat.succ_ne_self _⟩, fun b hb => I1.fpOk (new b hb) (I1.hok.fresh (new b hb)), q⟩
  · obtain ⟨its, rv, tp, _⟩ := I1.tuple hq
    have ht : s1.heap.IsTuple a its.toArray := tp
    have la : a < s1.heap.objs.size := by obtain ⟨o, q, _⟩ := ht; exact Heap.lt_size q
    refine call_enum (begins_tuple a its.toArray) ht fun h' he hit hk => wpAny_pyIter_enum he ?_
    exact ⟨_, _, _, _, H1, rfl, I1.kept (t' := s1.toks) hk, turn_enumT a (s1.heap.objs.size + 1) s1.heap.objs.size xs.length (Nat.ne_of_gt (Nat.lt_succ_of_lt la)) (Nat.ne_of_gt la) (Nat.succ_ne_self _), ⟨⟨.none, he⟩, ⟨_, hit, rfl, rfl⟩, Nat.zero_le _⟩, fun b hb => I1.fpOk (new b hb) (I1.hok.fresh (new b hb)), q⟩
def enumL (l : List IV) : List IV := l.mapIdx fun i v => .tup [.int (i : Nat), v]
def enumM (l : List IV) : M Src := fun st => match l with
  | [.tup l] => some (.val (enumL l, none), st)
  | [.lst l] => some (.val (enumL l, none), st)
  | _ => none
def mEnum (g : MA) : MI := fun ls => M.bind (g ls) enumM
theorem enumL_get {l : List IV} {i : Nat} {v : IV} (h : (enumL l)[i]? = some v) : ∃ u, l[i]? = some u ∧ v = .tup [.int (i : Nat), u] := by
  unfold enumL at h
  rw [List.getElem?_mapIdx] at h
  cases q : l[i]? with
  | none => rw [q] at h; cases h
  | some u => rw [q] at h; cases h; exact ⟨u, rfl, rfl⟩
theorem enumL_len (l : List IV) : (enumL l).length = l.length := by unfold enumL; simp
section
variable {K : PySem.W.Frag} {mg : Str → Option Value} {cm : Wd} {H : Hp}
theorem rep_pair {cm1 : Wd} {st1 : Sto} {H1 : Hp} {T : Addr} {i : Nat} {x : V} {u : IV} (s : RelS K mg cm1 st1 H1) (hT : H1 T = none) (r : Rep K mg cm1 H1 x u) : Rep K mg cm1 (upd H1 T (.tup [.int (i : Nat), x])) (.ref T) (.tup [.int (i : Nat), u]) :=
  .tup (.inl ⟨.inl upd_same, s.notAv hT⟩) (.cons (.int _) (.cons (r.ext (Ext.new' hT)) .nil))
theorem walks_ET {p : Addr} {xs : List V} {l : List IV} (h : FzT K cm H p xs) (r : RepL K mg cm H xs l) : Walks K mg (ItE K p xs.length) (enumL l, none) cm H where
  stop := fun i cm1 H1 st1 e s _ hi => by
    rw [enumL_len, ← r.length] at hi
    exact ⟨hi, xs, (e.fzT h).sq, rfl⟩
  go := fun i cm1 H1 st1 v e s _ hi => by
    obtain ⟨u, h1, rfl⟩ := enumL_get hi
    obtain ⟨x, h2, h3⟩ := r.get h1
    refine ⟨⟨xs, x, (e.fzT h).sq, rfl, h2⟩, fun y H2 hy => ?_⟩
    obtain ⟨T, x', rfl, hT, rfl, hx⟩ := hy
    have q := hx xs (e.fzT h).sq
    rw [h2] at q; cases q
    exact ⟨same_new hT, rep_pair s hT (h3.tr e)⟩
theorem walks_EL {p : Addr} {xs : List V} {l : List IV} (h : FzL cm H p xs) (r : RepL K mg cm H xs l) : Walks K mg (Ite K p) (enumL l, none) cm H where
  stop := fun i cm1 H1 st1 e s _ hi => by
    rw [enumL_len, ← r.length] at hi
    exact ⟨xs, (e.fzL h).sq, hi⟩
  go := fun i cm1 H1 st1 v e s _ hi => by
    obtain ⟨u, h1, rfl⟩ := enumL_get hi
    obtain ⟨x, h2, h3⟩ := r.get h1
    refine ⟨⟨xs, x, (e.fzL h).sq, h2⟩, fun y H2 hy => ?_⟩
    obtain ⟨T, x', rfl, hT, rfl, hx⟩ := hy
    have q := hx xs (e.fzL h).sq
    rw [h2] at q; cases q
    exact ⟨same_new hT, rep_pair s hT (h3.tr e)⟩
end
section
variable {X : Cx} {W : WX} {a : Expr} {g : MA} {p pos tpos : Pos} {elts : List Expr} {kk : Nat}
theorem i_enum (hg : Gl X "enumerate") (hm : X.mg "enumerate" = none) (ha : PA' X W [a] g) (hs : starEach [a] X.env = [(false, eval a X.env)] := by rfl) : PI' X W (.Tuple elts kk tpos) (.Call (.Name "enumerate" p) [a] [] pos) (mEnum g) :=
  PI_imp (pi_enum2 hg hm ha hs) fun σ H R h => rdA_mono (rdIA h) fun xs H1 h1 => by
    obtain ⟨cm, st, l, r, st', s, hx, e, o⟩ := h1
    unfold enumM at e
    split at e
    · cases e
      obtain ⟨y, rfl, hy⟩ := rep1 hx
      cases hy with
      | @tup q ys _ h1 h2 => exact ⟨q, ys, rfl, .inr ⟨h1.sq, o cm H1 (Ext.refl _ _) s _ (walks_ET h1 h2)⟩⟩
    · cases e
      obtain ⟨y, rfl, hy⟩ := rep1 hx
      cases hy with
      | @lst q ys _ h1 h2 => exact ⟨q, ys, rfl, .inl ⟨h1.sq, o cm H1 (Ext.refl _ _) s _ (walks_EL h1 h2)⟩⟩
    · cases e
end
theorem ct_two {K : PySem.W.Frag} {mg : Str → Option Value} (i j : Nat) : CT K mg [i, j] (gTupI 2 (gsCons (gSet i) (gsCons (gSet j) gsNil))) (gTup K 2 (gCons (gName i) (gCons (gName j) gNil))) := by
  intro x σ H Q cm ls v ls' R hx e k
  cases hx with
  | @tup p xs l h1 h2 =>
    simp only [gTupI] at e
    split at e
    · rename_i hl
      cases h2 with
      | nil => cases hl
      | @cons y1 ys v1 l1 r1 rr =>
        cases rr with
        | nil => cases hl
        | @cons y2 ys v2 l2 r2 rr =>
          cases rr with
          | cons => simp at hl
          | nil =>
            cases e
            refine ⟨p, _, rfl, h1.sq, rfl, y1, _, rfl, y2, _, rfl, rfl, k _ ?_ (by simp) fun m hm => ?_⟩
            · exact (R.set i r1).set j r2
            · rw [List.getElem?_set_ne (fun z => hm (by simp [z])), List.getElem?_set_ne (fun z => hm (by simp [z]))]
    · cases e
  | _ => cases e
theorem pg_two {X : Cx} {i j : Nat} {x y : Str} {p1 p2 pos : Pos} {kk : Nat} (hc : X.calm = true) (h1 : PG X (.Name x p1) (gName i)) (h2 : PG X (.Name y p2) (gName j)) (hn : (assignEach [.Name x p1, .Name y p2] X.env).length = 2 := by rfl)
    (hst : (assignEach [.Name x p1, .Name y p2] X.env).findIdx? (·.1) = none := by rfl) (hs1 : (assignEach [.Name x p1, .Name y p2] X.env).map (·.2) = assign (.Name x p1) X.env :: (assignEach [.Name y p2] X.env).map (·.2) := by rfl)
    (hs2 : (assignEach [.Name y p2] X.env).map (·.2) = assign (.Name y p2) X.env :: (assignEach [] X.env).map (·.2) := by rfl) : PG X (.Tuple [.Name x p1, .Name y p2] kk pos) (gTup X.K 2 (gCons (gName i) (gCons (gName j) gNil))) :=
  pg_tup hc (pgs_cons h1 (pgs_cons h2 pgs_nil hs2) hs1) hn hst
end MK
end
section
set_option maxHeartbeats 2000000
namespace MK
open PySem PySem.Spec PyProof.Rows L2
abbrev tupI (ns : List Int) : IV := .tup (ns.map .int)
end MK
end
namespace MK
open PySem L2
section
variable {st : Sto} {E : EX} {ls : Loc} {Q : IV → Sto → Prop} {QS : Src → Sto → Prop} {QB : List Int → Sto → Prop} {ga : MA} {m : ME} {tc : MT} {l : List IV} {c : Bool}
theorem we_enum (h : we (ga ls) st E fun l st1 => we (enumM l) st1 E QS) : we (mEnum ga ls) st E QS := we_bind h
instance i_we_enum  : Rule (we (mEnum ga ls) st E QS) (we (ga ls) st E fun l st1 => we (enumM l) st1 E QS) := ⟨we_enum⟩
theorem we_enumT (q : QS (enumL l, none) st) : we (enumM [.tup l]) st E QS := ⟨_, _, rfl, q⟩
instance i_we_enumT  : Rule (we (enumM [.tup l]) st E QS) (QS (enumL l, none) st) := ⟨we_enumT⟩
theorem we_enumL (q : QS (enumL l, none) st) : we (enumM [.lst l]) st E QS := ⟨_, _, rfl, q⟩
instance i_we_enumL  : Rule (we (enumM [.lst l]) st E QS) (QS (enumL l, none) st) := ⟨we_enumL⟩
theorem compL_map {α : Type} {t : MG} {l0 : List IV} {k : Option Nat} {QL : List IV → Sto → Prop} {as : List α} (g : α → IV) (p : α → Bool) (f : α → IV) (z : srcOk k l0 st)
    (step : ∀ a ∈ as, ∃ ls1, t ls (g a) = some ls1 ∧ we (tc ls1) st noX (fun b st' => b = p a ∧ st' = st) ∧ (p a = true → we (m ls1) st noX fun v st' => v = f a ∧ st' = st)) (q : QL ((as.filter p).map f) st) :
    we (compL t tc m l0 k ls (as.map g)) st noX QL := by
  refine ⟨.val ((as.filter p).map f), st, ?_, q⟩
  clear q
  induction as with
  | nil => simp only [List.map_nil]; unfold compL; rw [if_pos z]; rfl
  | cons a as ih =>
    obtain ⟨ls1, e1, e2, e3⟩ := step a List.mem_cons_self
    have e2 := run_of e2
    have ih' := ih fun w hw => step w (List.mem_cons_of_mem _ hw)
    simp only [List.map_cons]
    unfold compL
    rw [if_pos z, e1]
    show M.bind (M.nox (tc ls1)) _ st = _
    rw [M.bind_run (M.nox_run e2)]
    cases q : p a with
    | true =>
      rw [if_pos rfl, M.bind_run (M.nox_run (run_of (e3 q))), M.bind_run ih', List.filter_cons_of_pos q]
      rfl
    | false =>
      rw [if_neg (by decide), List.filter_cons_of_neg (by rw [q]; decide)]
      exact ih'
end
theorem inB_ints {st : Sto} {c : Int} {ns : List Int} : inB st (.int c) (.tup (ns.map .int)) = some (decide (c ∈ ns)) := by
  have hf : (ns.map IV.int).all IV.flat = true := by simp [IV.flat]
  simp only [inB, asSeq]
  rw [if_pos ⟨rfl, hf⟩]
  congr 1
  rw [Bool.eq_iff_iff]
  simp only [List.any_eq_true, decide_eq_true_eq, List.mem_map]
  constructor
  · rintro ⟨_, ⟨i, hi, rfl⟩, e⟩
    have : i = c := by simpa [eqF] using e
    exact this ▸ hi
  · intro h
    exact ⟨_, ⟨c, h, rfl⟩, by simp [eqF]⟩
theorem inB_intsL {st : Sto} {c : Int} {ns : List Int} : inB st (.int c) (.lst (ns.map .int)) = some (decide (c ∈ ns)) := by
  have hf : (ns.map IV.int).all IV.flat = true := by simp [IV.flat]
  simp only [inB, asSeq, lstOf]
  rw [if_pos ⟨rfl, hf⟩]
  congr 1
  rw [Bool.eq_iff_iff]
  simp only [List.any_eq_true, decide_eq_true_eq, List.mem_map]
  constructor
  · rintro ⟨_, ⟨i, hi, rfl⟩, e⟩
    have : i = c := by simpa [eqF] using e
    exact this ▸ hi
  · intro h
    exact ⟨_, ⟨c, h, rfl⟩, by simp [eqF]⟩
section
variable {st : Sto} {c : Int} {ns : List Int} {Q : IV → Prop}
theorem o_inT (q : Q (.bl (decide (c ∈ ns)))) : ∃ v, inI st (.int c) (tupI ns) = some v ∧ Q v := ⟨_, by unfold inI tupI; rw [inB_ints]; rfl, q⟩
instance i_o_inT  : Rule (∃ v, inI st (.int c) (tupI ns) = some v ∧ Q v) (Q (.bl (decide (c ∈ ns)))) := ⟨o_inT⟩
theorem o_notInT (q : Q (.bl (!decide (c ∈ ns)))) : ∃ v, notInI st (.int c) (tupI ns) = some v ∧ Q v := ⟨_, by unfold notInI tupI; rw [inB_ints]; rfl, q⟩
instance i_o_notInT  : Rule (∃ v, notInI st (.int c) (tupI ns) = some v ∧ Q v) (Q (.bl (!decide (c ∈ ns)))) := ⟨o_notInT⟩
theorem o_inL (q : Q (.bl (decide (c ∈ ns)))) : ∃ v, inI st (.int c) (.lst (ns.map .int)) = some v ∧ Q v := ⟨_, by unfold inI; rw [inB_intsL]; rfl, q⟩
end
def rngL (n : Int) : List Int := (List.range n.toNat).map fun (i : Nat) => (i : Int)
theorem rngL_mem {n i : Int} : i ∈ rngL n ↔ 0 ≤ i ∧ i < n := by
  unfold rngL
  simp only [List.mem_map, List.mem_range]
  constructor
  · rintro ⟨a, h, rfl⟩; omega
  · rintro ⟨h0, h1⟩; exact ⟨i.toNat, by omega, by omega⟩
theorem rngL_pw {n : Int} : (rngL n).Pairwise (· < ·) := by
  unfold rngL
  rw [List.pairwise_map]
  exact List.pairwise_lt_range.imp fun h => by omega
theorem rngL_len {n : Int} : (rngL n).length = n.toNat := by unfold rngL; simp
theorem rangeI_rng {n : Int} : rangeI 0 n.toNat = (rngL n).map .int := by
  unfold rangeI rngL
  rw [List.map_map]
  congr 1
  funext i
  simp
def getM (ms : List (List Int)) (i : Int) : List Int := ms.getD i.toNat []
theorem enumL_tups (ms : List (List Int)) : enumL (ms.map tupI) = (rngL ms.length).map fun i => .tup [.int i, tupI (getM ms i)] := by
  apply List.ext_getElem?
  intro i
  unfold enumL rngL getM
  rw [List.getElem?_mapIdx, List.getElem?_map, List.getElem?_map, List.getElem?_map]
  by_cases h : i < ms.length
  · rw [List.getElem?_eq_getElem h, List.getElem?_range (by simpa using h)]
    simp [h]
  · rw [List.getElem?_eq_none (by omega), List.getElem?_eq_none (by simpa using h)]
    rfl
end MK
section
set_option maxHeartbeats 2000000
namespace MK
open PySem PySem.Spec PyProof.Rows L2
structure NeOk (K : PySem.W.Frag) (mg : Str → Option Value) (c : Str) : Prop where
  ex : ∃ C, mg c = some (.ref C) ∧ PySem.W.findIn K (.ref C) "__ne__" = some (some (.builtin "object.__ne__")) ∧ PySem.W.plainOver K C = true
theorem NeOk.of {K : PySem.W.Frag} {h : Heap} {mg : Str → Option Value} {c : Str} {C : Addr} (X : K.In h) (G : h.Ns mainGlobals mg) (aC : PySem.W.nsIn K mainGlobals c = some (some (.ref C))) (n : PySem.W.findIn K (.ref C) "__ne__" = some (some (.builtin "object.__ne__"))) (p : PySem.W.plainOver K C = true) : NeOk K mg c :=
  ⟨⟨C, PySem.W.mg_of X G aC, n, p⟩⟩
end MK
end
section
set_option maxHeartbeats 2000000
namespace MK
open PySem PySem.Spec PyProof.Rows L2
def CmbAt (h : Heap) (it P : Addr) (st : Int) (last : Value) (ix : List Nat) : Prop :=
  h.get? it = some { cls := .type "itertools.combinations", dict := none, data := .fields (Value.ref P :: rawInt st :: last :: ix.map fun (i : Nat) => rawInt i).toArray, slots := #[] }
section
variable {prog : Program} {w : World} {A : Around} {E : Value → Shared → Prop} {s : Shared} {it P : Addr} {st : Int} {last : Value} {ix nx : List Nat} {items : Array Value}
theorem cmb_type (h : CmbAt s.heap it P st last ix) : s.TypeIs (.ref it) "itertools.combinations" := ⟨_, h, rfl⟩
def picks (items : Array Value) (ix : List Nat) : List Value := ix.map fun i => items.getD i .none
end
end MK
end
section
set_option maxHeartbeats 2000000
namespace MK
open PySem PySem.Spec PyProof.Rows L2
section
variable {X : Cx} {W : WX} {e : Expr} {fa : ME} {c f : Str} {p p2 pos : Pos}
def ErrC (K : PySem.W.Frag) (mg : Str → Option Value) (c : Str) : Prop := ∃ C, mg c = some (.ref C) ∧ ExcC K C
def ErrRow (K : PySem.W.Frag) (mg : Str → Option Value) (t : Str × Str × Bool) : Prop := ∃ C D, mg t.1 = some (.ref C) ∧ mg t.2.1 = some (.ref D) ∧ PySem.W.kitOne K (.ref C) (.ref D) = some t.2.2
section
variable {K : PySem.W.Frag} {mg : Str → Option Value} {h : Heap}
theorem ErrC.of {c : Str} {C : Addr} (X : K.In h) (G : h.Ns mainGlobals mg) (aC : PySem.W.nsIn K mainGlobals c = some (some (.ref C))) (hg : PySem.W.findIn K (.ref C) "__getattribute__" = some (some (.builtin "BaseException.__getattribute__"))) (hk : PySem.W.findIn K (.ref C) "__getattr__" = some none)
    (hs : PySem.W.subIn K (.ref C) (.type "BaseException") = some true) (hd : PySem.W.hasDictIn K C = true) (ha : PySem.W.findIn K (.ref C) "__class__" = some (some (.builtin "object.__class__"))) (hn : PySem.W.specialIn K (.builtin "object.__class__") "__get__" = some (some (.builtin "getset_descriptor.__get__")))
    (ht : PySem.W.takesIn K (.builtin "object.__class__") = some true) (hm : PySem.W.mroIn K C (.type "object") = some true) : ErrC K mg c := ⟨C, PySem.W.mg_of X G aC, ⟨hg, hk, hs, hd, ha, hn, ht, hm⟩⟩
theorem ErrRow.of {c D : Str} {b : Bool} {C Dv : Addr} (X : K.In h) (G : h.Ns mainGlobals mg) (aC : PySem.W.nsIn K mainGlobals c = some (some (.ref C))) (aD : PySem.W.nsIn K mainGlobals D = some (some (.ref Dv))) (hne : (Value.ref C == Value.ref Dv) = false) (i : PySem.W.isClsIn K Dv = true) (tC : PySem.W.typeIn K (.ref Dv) = some (.type "type"))
    (s : PySem.W.subIn K (.ref C) (.ref Dv) = some b) : ErrRow K mg (c, D, b) := ⟨C, Dv, PySem.W.mg_of X G aC, PySem.W.mg_of X G aD, kit_sub hne i tC s⟩
theorem ErrRow.same {c : Str} (e : ErrC K mg c) : ErrRow K mg (c, c, true) := by
  obtain ⟨C, m, _⟩ := e
  exact ⟨C, C, m, m, by unfold PySem.W.kitOne; rw [if_pos (by simp)]⟩
end
variable {a : Expr}
end
end MK
end
namespace MK
open PySem PySem.Spec PyProof.Rows L2
def ErrRowB (K : PySem.W.Frag) (mg : Str → Option Value) (T : String) (t : Str × Bool) : Prop := ∃ C, mg t.1 = some (.ref C) ∧ PySem.W.kitOne K (.ref C) (.type T) = some t.2
section
variable {K : PySem.W.Frag} {mg : Str → Option Value} {h : Heap} {T : String}
theorem ErrRowB.of {c : Str} {b : Bool} {C : Addr} (X : K.In h) (G : h.Ns mainGlobals mg) (aC : PySem.W.nsIn K mainGlobals c = some (some (.ref C))) (s : PySem.W.subIn K (.ref C) (.type T) = some b) (k : PySem.W.kitMeta T = true := by decide +kernel) : ErrRowB K mg T (c, b) := ⟨C, PySem.W.mg_of X G aC, by
  unfold PySem.W.kitOne
  rw [if_neg (by intro z; cases z)]
  show (if PySem.W.kitMeta T = true then PySem.W.subIn K (.ref C) (.type T) else none) = _
  rw [if_pos k]
  exact s⟩
end
end MK
section
set_option maxHeartbeats 2000000
namespace MK
open PySem PySem.Spec PyProof.Rows L2
def CmbI (P it : Addr) (items : Array Value) (L : List (List Nat)) (i : Nat) (h : Heap) : Prop :=
  h.IsTuple P items ∧ ∃ last ix, ((i = 0 ∧ L[0]? = some ix ∧ CmbAt h it P 0 last ix) ∨ (∃ k, i = k + 1 ∧ L[k]? = some ix ∧ CmbAt h it P 1 last ix))
theorem CmbI.type {P it : Addr} {items : Array Value} {L : List (List Nat)} {i : Nat} {s : Shared} (c : CmbI P it items L i s.heap) : s.TypeIs (.ref it) "itertools.combinations" := by
  obtain ⟨_, last, ix, q⟩ := c
  rcases q with ⟨_, _, q⟩ | ⟨_, _, _, q⟩ <;> exact cmb_type q
structure Gvn (items : Array Value) (L : List (List Nat)) (S it : Addr) (Ts : List Addr) (h : Heap) : Prop where
  nd : Ts.Nodup
  gt : ∀ T ∈ Ts, S < T
  ne : ∀ T ∈ Ts, T ≠ it
  at' : ∀ (j : Nat) (T : Addr), Ts[j]? = some T → ∃ ix : List Nat, L[j]? = some ix ∧ h.get? T = some { cls := .type "tuple", data := .seq (picks items ix).toArray }
theorem Gvn.nil {items : Array Value} {L : List (List Nat)} {S it : Addr} {h : Heap} : Gvn items L S it [] h := ⟨List.nodup_nil, fun _ h => (by cases h), fun _ h => (by cases h), fun j T e => (by simp at e)⟩
theorem Gvn.add {items : Array Value} {L : List (List Nat)} {S it : Addr} {Ts : List Addr} {h h' : Heap} {T : Addr} {ix : List Nat} (g : Gvn items L S it Ts h) (k : ∀ b o, b ≠ it → h.get? b = some o → h'.get? b = some o)
    (hT : h.get? T = none) (h1 : S < T) (h2 : T ≠ it) (hx : L[Ts.length]? = some ix) (e : h'.get? T = some { cls := .type "tuple", data := .seq (picks items ix).toArray }) : Gvn items L S it (Ts ++ [T]) h' := by
  have hn : T ∉ Ts := fun m => by
    obtain ⟨j, hj⟩ := List.getElem?_of_mem m
    obtain ⟨ix, _, q⟩ := g.at' j T hj
    rw [hT] at q; cases q
  refine ⟨List.nodup_append.mpr ⟨g.nd, by simp, fun a ha b hb => by simp at hb; subst hb; exact fun z => hn (z ▸ ha)⟩, fun U m => ?_, fun U m => ?_, fun j U q => ?_⟩
  · rcases List.mem_append.mp m with m | m
    · exact g.gt U m
    · simp at m; subst m; exact h1
  · rcases List.mem_append.mp m with m | m
    · exact g.ne U m
    · simp at m; subst m; exact h2
  · by_cases hlt : j < Ts.length
    · rw [List.getElem?_append_left hlt] at q
      obtain ⟨ix, e1, e2⟩ := g.at' j U q
      exact ⟨ix, e1, k U _ (g.ne U (List.mem_of_getElem? q)) e2⟩
    · have hj := (List.getElem?_eq_some_iff.mp q).1
      simp at hj
      have : j = Ts.length := by omega
      subst this
      rw [List.getElem?_append_right (Nat.le_refl _)] at q
      simp at q
      subst q
      exact ⟨ix, hx, e⟩
end MK
end
section
set_option maxHeartbeats 2000000
namespace MK
open PySem PySem.Spec PyProof.Rows L2
section
variable {K : PySem.W.Frag} {mg : Str → Option Value} {cm : Wd} {H : Hp} {W : WX} {σ : L2.St}
theorem Out.tr {α : Type} {G : Wd → Hp → α → Prop} {cm' : Wd} {H' : Hp} {r : OX α} {st' : Sto} (x : Ext cm H cm' H') (o : Out K mg W σ cm H G r st') : Out K mg W σ cm' H' G r st' := by
  cases r with
  | val b => exact fun cm2 H2 x2 s2 => o cm2 H2 (x.trans x2) s2
  | exc c f v => exact fun cm2 H2 x2 s2 => o cm2 H2 (x.trans x2) s2
end
end MK
end
section
set_option maxHeartbeats 2000000
namespace MK
open PySem PySem.Spec PyProof.Rows L2
abbrev MBL := Loc → M (List IV)
def mOne (e : ME) : MBL := fun ls => M.bind (e ls) fun v => M.ret [v]
open Classical in
noncomputable def compF (t : MG) (c : MT) (inn : MBL) (l0 : List IV) (k : Option Nat) (ls : Loc) : List IV → M (List IV)
  | [] => fun st => if srcOk k l0 st then some (.val [], st) else none
  | v :: vs => fun st => if srcOk k l0 st then (match t ls v with
    | some ls1 => M.bind (M.nox (c ls1)) (fun b => if b = true then M.bind (M.nox (inn ls1)) fun ys => M.bind (compF t c inn l0 k ls vs) fun zs => M.ret (ys ++ zs) else compF t c inn l0 k ls vs) st
    | none => none) else none
noncomputable def mClauseL (src : MI) (vs : List Nat) (t : MG) (c : MT) (inn : MBL) : MBL := fun ls => M.bind (src ls) fun p => M.nox (compF t c inn p.1 p.2 (wipeI ls vs) p.1)
section
variable {K : PySem.W.Frag} {mg : Str → Option Value} {H H1 : Hp} {cm cm1 : Wd} {st st1 : Sto} {D : Addr} {xs : List V} {acc : List IV}
theorem Making.addTr (m : Making K mg cm H cm1 H1 st1 D xs acc) (ys : List V) : Tr cm1 H1 cm1 (upd H1 D (.lst ys)) :=
  ⟨fun _ _ h => h, fun a o h na => ⟨(upd_ne (fun z : a = D => na (z ▸ m.av))).trans h, na⟩⟩
theorem lturns {J : It} {p : Src} {t : MG} {g : TG} {c : MT} {inn : MBL} {vs : List Nat} {ls : Loc} {σ0 : L2.St} {st2 : Sto} {l acc0 : List IV} {xs0 : List V} {In : (Hp → Prop) → L2.St → Hp → Prop} {Qe : Hp → Prop} {B : Nat}
    (ct : CT K mg vs t g) (wk : Walks K mg J p cm1 H1) (mk : Making K mg cm H cm1 H1 st1 D xs0 acc0) (R0 : RelC K mg cm1 ls σ0 H1) (hD : H D = none)
    (e0 : compF t c inn p.1 p.2 ls p.1 st1 = some (.val l, st2)) (hB : (acc0 ++ l).length ≤ B)
    (hin : ∀ (cm2 : Wd) (H2 : Hp) (st3 st4 : Sto) (σ2 : L2.St) (ls2 : Loc) (xs : List V) (acc ys : List IV) (Nx : Hp → Prop), Making K mg cm H cm2 H2 st3 D xs acc → RelC K mg cm2 ls2 σ2 H2 → inn ls2 st3 = some (.val ys, st4) → (acc ++ ys).length ≤ B →
      (∀ cm3 H3 xs', Tr cm2 H2 cm3 H3 → Making K mg cm H cm3 H3 st4 D xs' (acc ++ ys) → Nx H3) → In Nx σ2 H2)
    (hq : ∀ cm2 H2 xs', Tr cm1 H1 cm2 H2 → Making K mg cm H cm2 H2 st2 D xs' (acc0 ++ l) → Qe H2) :
    ∃ W : Nat → Nat → Hp → Prop, (∃ m, W 0 m H1) ∧ ∀ i m H, W i m H → (J.stop i H ∧ Qe H) ∨ (J.go i H ∧ ∃ Nx : Hp → Prop, (∀ H', Nx H' → ∃ m', m' < m ∧ W (i + 1) m' H') ∧
      ∀ x H', J.yld i H x H' → g x σ0 H' fun σ2 H2 => wipe σ2 vs = wipe σ0 vs ∧ rdT K mg W0 c σ2 H2 fun b H3 => if b = true then In Nx σ2 H3 else Nx H3) := by
  refine ⟨fun i m H2 => m = p.1.length - i ∧ i ≤ p.1.length ∧ ∃ cm2 st3 xs acc rest, Tr cm1 H1 cm2 H2 ∧ Making K mg cm H cm2 H2 st3 D xs acc ∧ compF t c inn p.1 p.2 ls (p.1.drop i) st3 = some (.val rest, st2) ∧ acc ++ rest = acc0 ++ l,
    ⟨p.1.length, by simp, Nat.zero_le _, cm1, st1, xs0, acc0, l, Tr.refl, mk, by simpa using e0, rfl⟩, ?_⟩
  rintro i m H2 ⟨rfl, hi, cm2, st3, xs, acc, rest, T2, mk2, e5, hl⟩
  by_cases hlt : i < p.1.length
  · rw [List.drop_eq_getElem_cons hlt] at e5
    simp only [compF] at e5
    split at e5
    · rename_i hok
      cases q : t ls p.1[i] with
      | none => rw [q] at e5; cases e5
      | some ls3 =>
        rw [q] at e5
        obtain ⟨g1, g2⟩ := wk.go i cm2 H2 st3 p.1[i] T2 mk2.sto hok (by simp [hlt])
        refine .inr ⟨g1, fun H' => i + 1 ≤ p.1.length ∧ ∃ cm2 st3 xs acc rest, Tr cm1 H1 cm2 H' ∧ Making K mg cm H cm2 H' st3 D xs acc ∧ compF t c inn p.1 p.2 ls (p.1.drop (i + 1)) st3 = some (.val rest, st2) ∧ acc ++ rest = acc0 ++ l,
          fun H' h => ⟨p.1.length - (i + 1), by omega, rfl, h.1, h.2⟩, fun x H3 hy => ?_⟩
        obtain ⟨g3, g4⟩ := g2 x H3 hy
        have E3 : Ext cm2 H2 cm2 H3 := Ext.same g3
        have mk3 := mk2.step hD E3 (mk2.sto.same g3)
        have T3 := T2.trans E3.tr
        refine ct x σ0 H3 _ cm2 ls p.1[i] ls3 (R0.tr T3) g4 q fun σ4 R4 hl4 ha4 => ⟨wipe_eq hl4 ha4, ?_⟩
        rcases M.bind_inv e5 with ⟨b, st4, e6, e7⟩ | ⟨c', f, v, _, q6⟩
        · obtain ⟨b', q7, e6'⟩ := M.nox_inv e6
          cases q7
          refine ⟨cm2, ls3, st3, _, st4, ⟨mk3.sto, R4⟩, e6', fun cm5 H5 x5 s5 => ?_⟩
          have mk5 := mk3.step hD x5 s5
          have T5 := T3.trans x5.tr
          cases b with
          | false =>
            simp only [Bool.false_eq_true, if_false] at e7 ⊢
            exact ⟨hlt, cm5, st4, xs, acc, rest, T5, mk5, e7, hl⟩
          | true =>
            simp only [if_true] at e7 ⊢
            rcases M.bind_inv e7 with ⟨ys, st5, e8, e9⟩ | ⟨c', f, v, _, q6⟩
            · obtain ⟨ys', q8, e8'⟩ := M.nox_inv e8
              cases q8
              rcases M.bind_inv e9 with ⟨zs, st6, e10, e11⟩ | ⟨c', f, v, _, q6⟩
              · cases e11
                rw [← List.append_assoc] at hl
                refine hin cm5 H5 st4 st5 σ4 ls3 xs acc ys _ mk5 (R4.ext x5) e8' ?_ fun cm6 H6 xs' T6 mk6 => ?_
                · have := congrArg List.length hl
                  simp only [List.length_append] at this hB ⊢
                  omega
                · exact ⟨hlt, cm6, st5, xs', acc ++ ys, zs, T5.trans T6, mk6, e10, hl⟩
              · cases q6
            · cases q6
        · cases q6
    · cases e5
  · rw [List.drop_eq_nil_of_le (by omega)] at e5
    simp only [compF] at e5
    split at e5
    · rename_i hok
      cases e5
      rw [List.append_nil] at hl
      refine .inl ⟨wk.stop i cm2 H2 st2 T2 mk2.sto hok (by omega), hq cm2 H2 xs T2 ?_⟩
      rw [← hl]; exact mk2
    · cases e5
theorem rd_lc2 {cell : Bool} {src src1 : MI} {vs vs1 : List Nat} {t t1 : MG} {g g1 : TG} {c c1 : MT} {e : ME} {σ : L2.St} {W : WX} {Q : VK} (ct : CT K mg vs t g) (ct1 : CT K mg vs1 t1 g1)
    (h : rdE K mg W (fun ls => M.bind (mClauseL src vs t c (mClauseL src1 vs1 t1 c1 (mOne e)) ls) fun l => if l.length ≤ 16777215 then newL cell l else M.stuck) σ H Q) :
    tLc2 (rdI K mg W src) g (rdT K mg W0 c) (rdI K mg W0 src1) g1 (rdT K mg W0 c1) (rdE K mg W0 e) vs vs1 σ H Q := by
  obtain ⟨cm, ls, st, r, st', R, e0, o⟩ := h
  have zl := sizeLine_eq
  rcases M.bind_inv e0 with ⟨l, st1, e1, e2⟩ | ⟨c', f, v, e1, rfl⟩
  · rcases M.bind_inv e1 with ⟨p, st2, e3, e4⟩ | ⟨c', f, v, e3, q⟩
    · refine ⟨cm, ls, st, _, st2, R, e3, fun cm1 H1 x1 s1 J wk D hD => ?_⟩
      obtain ⟨l', q1, e4'⟩ := M.nox_inv e4
      cases q1
      split at e2
      · rename_i hlen
        have mk := Making.mk0 s1 hD
        have T0 : Tr cm1 H1 (cm1.avoid D) (upd H1 D (.lst [])) := mk.ext.tr
        have wk' : Walks K mg J p (cm1.avoid D) (upd H1 D (.lst [])) := ⟨fun i cm2 H2 st3 T => wk.stop i cm2 H2 st3 (T0.trans T), fun i cm2 H2 st3 v T => wk.go i cm2 H2 st3 v (T0.trans T)⟩
        have o1 : Out K mg W σ cm1 H1 (GE K mg Q) r st' := o.tr x1
        refine Exists.elim (lturns (acc0 := []) (xs0 := []) (B := 16777215) (Qe := fun H => Q (.ref D) H) (In := fun Nx σ2 H4 => rdI K mg W0 src1 σ2 H4 fun J1 H4 => ∃ W1 : Nat → Nat → Hp → Prop, (∃ m, W1 0 m H4) ∧ ∀ j k H, W1 j k H →
            (J1.stop j H ∧ Nx H) ∨ (J1.go j H ∧ ∃ Nx1 : Hp → Prop, (∀ H', Nx1 H' → ∃ k', k' < k ∧ W1 (j + 1) k' H') ∧ ∀ x H', J1.yld j H x H' → g1 x (wipe σ2 vs1) H' fun σ3 H5 => wipe σ3 vs1 = wipe (wipe σ2 vs1) vs1 ∧ rdT K mg W0 c1 σ3 H5 fun b H6 =>
              if b = true then rdE K mg W0 e σ3 H6 fun y H7 => ∃ acc, H7 D = some (.lst acc) ∧ acc.length < sizeLine ∧ Nx1 (upd H7 D (.lst (acc ++ [y]))) else Nx1 H6)) ct wk' mk (((R.loc.ext x1).wipe vs).tr T0) hD e4' (by simpa using hlen)
          (fun cm2 H2 st3 st4 σ2 ls2 xs acc ys Nx mk2 R2 h hB k => ?_) fun cm2 H2 xs' T2 mk2 => mk2.done s1 hD e2 o1) fun WW hWW => ?_
        rotate_left 1
        · obtain ⟨h1, h2⟩ := hWW
          refine ⟨WW, h1, fun i m H3 hW => ?_⟩
          rcases h2 i m H3 hW with hh | ⟨hg, Nx, hn, hy⟩
          · exact .inl hh
          · refine .inr ⟨hg, Nx, hn, fun x H' hx => ?_⟩
            have z := hy x H' hx
            simp only [wipe_wipe] at z ⊢
            exact z
        · rcases M.bind_inv h with ⟨p1, st5, e5, e6⟩ | ⟨_, _, _, _, q⟩
          · obtain ⟨ys', q, e6⟩ := M.nox_inv e6
            cases q
            refine ⟨cm2, ls2, st3, _, st5, ⟨mk2.sto, R2⟩, e5, fun cm5 H5 x5 s5 J1 wk1 => ?_⟩
            refine lturns (B := 16777215) (In := fun Nx1 σ3 H6 => rdE K mg W0 e σ3 H6 fun y H7 => ∃ acc, H7 D = some (.lst acc) ∧ acc.length < sizeLine ∧ Nx1 (upd H7 D (.lst (acc ++ [y])))) ct1 wk1 (mk2.step hD x5 s5) ((R2.ext x5).wipe vs1) hD e6 hB
              (fun cm6 H6 st6 st7 σ6 ls6 xs6 acc6 ys6 Nx6 mk6 R6 h6 hB6 k6 => ?_) fun cm6 H6 xs6 T6 mk6 => k cm6 H6 xs6 (x5.tr.trans T6) mk6
            rcases M.bind_inv h6 with ⟨v, st8, e8, e9⟩ | ⟨_, _, _, _, q⟩
            · cases e9
              refine ⟨cm6, ls6, st6, _, _, ⟨mk6.sto, R6⟩, e8, fun cm7 H7 x7 s7 y hy => ?_⟩
              have mk7 := mk6.step hD x7 s7
              refine ⟨xs6, mk7.at', ?_, k6 cm7 _ _ (x7.tr.trans (mk7.addTr _)) (mk7.add hD hy)⟩
              have := mk7.rep.length
              simp only [List.length_append, List.length_cons, List.length_nil] at hB6
              omega
            · cases q
          · cases q
      · cases e2
    · cases q
  · rcases M.bind_inv e1 with ⟨p, st2, e3, e4⟩ | ⟨c'', f', v', e3, q⟩
    · obtain ⟨_, q, _⟩ := M.nox_inv e4
      cases q
    · cases q
      exact ⟨cm, ls, st, _, st', R, e3, fun cm1 H1 x1 s1 => o cm1 H1 x1 s1⟩
end
noncomputable def mLc2 (cell : Bool) (src : MI) (vs : List Nat) (t : MG) (c : MT) (src1 : MI) (vs1 : List Nat) (t1 : MG) (c1 : MT) (e : ME) : ME := fun ls => M.bind (mClauseL src vs t c (mClauseL src1 vs1 t1 c1 (mOne e)) ls) fun l => if l.length ≤ 16777215 then newL cell l else M.stuck
section
variable {X : Cx} {W : WX} {tg iter elt tg1 iter1 : Expr} {ifs ifs1 : List Expr} {scope : Scope} {pos : Pos} {src src1 : MI} {t t1 : MG} {g g1 : TG} {c c1 : MT} {m : ME}
theorem e_lc2 (cell : Bool) (own : List (Str × Nat)) (vs1 : List Nat) (ct : CT X.K X.mg (own.map (·.2)) t g) (ct1 : CT X.K X.mg vs1 t1 g1) (hv : ∀ i ∈ vs1, i ∈ own.map (·.2)) (hc : X.calm = true) (hN : X.N.Nodup) (hi : PI' X W tg iter src) (ok : BlkOk X.N X.env.scope scope own)
    (hg : ∀ (s : Shared) (H : Hp) (C : Addr) (cl : List (Str × Addr)) (fp : List Addr), PG (X.blk s H scope (compEnvC scope cl C X.env) fp) tg g)
    (ht : ∀ (s : Shared) (H : Hp) (C : Addr) (cl : List (Str × Addr)) (fp : List Addr), PTs' (X.blk s H scope (compEnvC scope cl C X.env) fp) W0 ifs c)
    (hi1 : ∀ (s : Shared) (H : Hp) (C : Addr) (cl : List (Str × Addr)) (fp : List Addr), PI' (X.blk s H scope (compEnvC scope cl C X.env) fp) W0 tg1 iter1 src1)
    (hg1 : ∀ (s : Shared) (H : Hp) (C : Addr) (cl : List (Str × Addr)) (fp : List Addr), PG (X.blk s H scope (compEnvC scope cl C X.env) fp) tg1 g1)
    (ht1 : ∀ (s : Shared) (H : Hp) (C : Addr) (cl : List (Str × Addr)) (fp : List Addr), PTs' (X.blk s H scope (compEnvC scope cl C X.env) fp) W0 ifs1 c1)
    (he : ∀ (s : Shared) (H : Hp) (C : Addr) (cl : List (Str × Addr)) (fp : List Addr), PE' (X.blk s H scope (compEnvC scope cl C X.env) fp) W0 elt m) (hs : ∀ x, foldedSetIterable iter X.env x = pure x := by intro _; rfl)
    (hs1 : ∀ env x, foldedSetIterable iter1 env x = pure x := by intro _ _; rfl) :
    PE' X W (.ListComp elt [⟨tg, iter, ifs, 0⟩, ⟨tg1, iter1, ifs1, 0⟩] scope pos) (mLc2 cell src (own.map (·.2)) t c src1 vs1 t1 c1 m) :=
  PE_imp (pe_lc2 hc hN hi ok hv hg ht hi1 hg1 ht1 he hs hs1) fun _ _ _ h => rd_lc2 ct ct1 h
end
end MK
end
set_option maxHeartbeats 4000000
namespace MK
open PySem PySem.Spec PyProof.Rows L2
open PySem.AutoSeq1 (wpAny_loadPart')
section
variable {K : PySem.W.Frag} {mg : Str → Option Value}
def shlI (_ : Sto) (a b : IV) : Option IV := match a, b with
  | .int i, .int j => if 0 ≤ j ∧ j ≤ 1000000 ∧ i.natAbs < 2 ^ 64 then some (.int (i * 2 ^ j.toNat)) else none
  | _, _ => none
theorem v_shl : OpV K mg (rI CPow fun i j => .int (i * 2 ^ j.toNat)) shlI := by
  intro cm st H x y a b v Q s hx hy e k
  cases a <;> cases b <;> simp only [shlI] at e <;> try cases e
  split at e
  · cases e; cases hx; cases hy
    exact ⟨_, _, rfl, rfl, by assumption, k cm H _ (Ext.refl _ _) s (.int _)⟩
  · cases e
end
section
variable {X : Cx} {W : WX} {a b : Expr} {fa fb : ME} {pos : Pos}
theorem e_shl (ha : PE' X W a fa) (hb : PE' X W b fb) : PE' X W (.BinOp a .LShift b pos) (m2 shlI fa fb) := PE_imp (pe_op op_shl ha hb) fun _ _ _ h => rd_op v_shl h
end
def TupC (K : PySem.W.Frag) (mg : Str → Option Value) (x : Str) (vs : List V) : Prop := ∃ (A : Addr) (o : Obj) (its : Array Value) (n : Nat), mg x = some (.ref A) ∧ K.lookup A = some o ∧ o.cls = .type "tuple" ∧ o.data = .seq its n ∧ its.size ≤ sizeLine ∧ Vals vs its.toList
theorem TupC.of {K : PySem.W.Frag} {mg : Str → Option Value} {h : Heap} {x : Str} {vs : List V} (X : K.In h) (G : h.Ns mainGlobals mg) {A : Addr} {d : Option Addr} {its : Array Value} {n : Nat} {sl : Array (Option Value)} (a : PySem.W.nsIn K mainGlobals x = some (some (.ref A)))
    (l : K.lookup A = some ⟨.type "tuple", d, .seq its n, sl⟩) (hz : vs.length ≤ 1000) (hv : Vals vs its.toList) : TupC K mg x vs := by
  refine ⟨A, _, its, n, PySem.W.mg_of X G a, l, rfl, rfl, ?_, hv⟩
  have : vs.length = its.size := hv.length
  rw [sizeLine_eq]; omega
theorem e_gT {X : Cx} {W : WX} {pos : Pos} {x : Str} {vs : List V} {l : List IV} (hm : TupC X.K X.mg x vs) (hr : ∀ cm H, RepL X.K X.mg cm H vs l) (hg : Gl X x := by rfl) (hd : (x == ("__debug__" : Str)) = false := by decide) : PE' X W (.Name x pos) (mC (.tup l)) := by
  obtain ⟨A, o, its, n, h1, h2, h3, h4, h5, h6⟩ := hm
  exact PE_imp (pe_glob (v := .ref A) hg h1 rfl hd) fun σ H Q h => rd_c (fun cm => .tup (.inr ⟨o, its, n, h2, h3, h4, h5, h6⟩) (hr cm H)) h
end MK
section
set_option maxHeartbeats 2000000
namespace MK
open PySem PySem.Spec PyProof.Rows L2
def rRemD (K : PySem.W.Frag) : V → List V → Hp → VK → Prop := fun x xs H Q => ∃ (l : Addr) (ys : List V) (y : V) (d : PyData) (ds : List PyData) (j : Nat), x = .ref l ∧ xs = [y] ∧ H l = some (.lst ys) ∧ DpAll K H ys ds ∧ Dp K H y d ∧ SeqAt.shaped (.list ds) = true ∧ SeqAt.shaped d = true ∧
  ds.findIdx? (fun z => PyData.eqv z d) = some j ∧ Q .non (upd H l (.lst (ys.eraseIdx j)))
theorem mt_removeD {X : Cx} (hu : X.A.units + 65 < cLine) : MtM X "list.remove" (rRemD X.K) := by
  intro pins s σ H x xs v us Q I rx rxs h
  obtain ⟨l, ys, y, d, ds, j, rfl, rfl, hH, ha, hy, sl, sd, hj, q⟩ := h
  cases rx
  obtain ⟨u, rfl, ru⟩ := rxs.one
  obtain ⟨z, its, n, r, hl, e⟩ := I.lstM hH
  obtain ⟨bs, r1⟩ := Dp.reads I d y u hy ru
  have hxs : PyData.canLayAll0 ds = true := SeqAt.canLay_of_shaped sl
  have hroom : X.A.units + 1 + min (PyData.depthAll ds) d.depth < cLine := room_in_shaped sd hu
  obtain ⟨as, h4⟩ := Dp.readsAll I ds _ its ha r
  have hn : its.length = ds.length := SeqAt.ReadsAll.length ds its as h4
  have hmap : its.map (SeqAt.readOf s.heap) = ds := SeqAt.readsAll_map ds its as hxs h4
  have hvl := r.length
  have hsl := sizeLine_eq
  obtain ⟨hjd, hp, hb⟩ := List.findIdx?_eq_some_iff_getElem.mp hj
  have hjl : j < its.toArray.size := by rw [List.size_toArray]; omega
  have at_ : ∀ (m : Nat) (hm : m < its.toArray.size) (hmd : m < ds.length), SeqAt.readOf s.heap its.toArray[m] = ds[m] := by
    intro m hm hmd
    have hml : m < its.length := by simpa using hm
    have e1 : (its.map (SeqAt.readOf s.heap))[m]'(by rw [List.length_map]; exact hml) = ds[m] := by simp only [hmap]
    simpa using e1
  refine call_meets PySem.F.slot_list_remove ⟨_, e, rfl⟩ PySem.F.entry_list_remove (PySem.F.args_list_remove_2 _ _)
    (SeqAt.list_removeAt l its.toArray n _ _ u (fun u => PyData.eqv (SeqAt.readOf s.heap u) d) j hjl ?_ ?_ (by rw [List.size_toArray]; omega)) ⟨e, SeqAt.items_eqAt (vs := its.toArray) (show ReadsAll s.heap its.toArray.toList ds as from h4) r1 hxs (SeqAt.canLay_of_shaped sd) hroom, ?_⟩
  · show PyData.eqv (SeqAt.readOf s.heap its.toArray[j]) d = true
    rw [at_ j hjl hjd]
    exact hp
  · intro m hm hmj
    show PyData.eqv (SeqAt.readOf s.heap its.toArray[m]) d = false
    rw [at_ m hm (by omega)]
    simpa using hb m hmj
  · refine ⟨.non, _, I.lset (its' := its.eraseIdx j) (t' := s.toks) hH e ?_ (r.eraseIdx j) ?_, rfl, q⟩
    · show its.toArray.eraseIdxIfInBounds j = (its.eraseIdx j).toArray
      rw [List.eraseIdxIfInBounds_toArray]
    · have := List.length_eraseIdx_le ys j
      omega
def remM (a : IV) (l : List IV) : M IV := fun st => match a, l with
  | .cell n, [v] => (match st[n]? with
    | some (.lst m) => (match toDL m, v.data st with
      | some ds, some d => if SeqAt.shaped (.list ds) = true ∧ SeqAt.shaped d = true then (match ds.findIdx? (fun z => PyData.eqv z d) with
        | some j => some (.val .non, st.set n (.lst (m.eraseIdx j)))
        | none => none) else none
      | _, _ => none)
    | _ => none)
  | _, _ => none
theorem pureL_erase : ∀ {l : List IV} (n : Nat), pureL l = true → pureL (l.eraseIdx n) = true
  | [], _, h => h
  | a :: l, 0, h => by
    simp only [pureL, Bool.and_eq_true] at h
    exact h.2
  | a :: l, n + 1, h => by
    simp only [pureL, Bool.and_eq_true] at h
    simp only [List.eraseIdx_cons_succ, pureL, Bool.and_eq_true]
    exact ⟨h.1, pureL_erase n h.2⟩
theorem RepL.erase {K : PySem.W.Frag} {mg : Str → Option Value} {cm : Wd} {H : Hp} : ∀ {xs : List V} {l : List IV} (n : Nat), RepL K mg cm H xs l → RepL K mg cm H (xs.eraseIdx n) (l.eraseIdx n)
  | _, _, _, .nil => .nil
  | _, _, 0, .cons h r => r
  | _, _, n + 1, .cons h r => .cons h (RepL.erase n r)
theorem v_rem {K : PySem.W.Frag} {mg : Str → Option Value} : MtV K mg "list" (rRemD K) remM := by
  intro W σ cm st H x a xs l o st' Q s hx hl e out
  unfold remM at e
  split at e
  · rename_i n v
    split at e
    · rename_i m q
      split at e
      · rename_i ds d q1 q2
        split at e
        · rename_i hc
          split at e
          · rename_i j hj
            cases e
            obtain ⟨p, ys, rfl, h1, h2, h3, h4⟩ := cell_at s hx q
            obtain ⟨y, rfl, hy⟩ := rep1 hl
            obtain ⟨E, s'⟩ := cell_put (σ := σ) s h1 (h3.erase j) (pureL_erase j h4)
            exact ⟨p, ys, y, d, ds, j, rfl, rfl, h2, toDL_Dp m h3 q1, data_Dp s hy q2, hc.1, hc.2, hj, out cm _ E s' _ .non⟩
          · cases e
        · cases e
      · cases e
    · cases e
  · cases e
section
variable {X : Cx} {W : WX} {a e : Expr} {es : List Expr} {fa : ME} {g : MA} {apos cpos : Pos}
theorem e_remove (hu : X.A.units + 65 < cLine) (ho : PE' X W a fa) (hl : PA' X W (e :: es) g)
    (hbase : attributeBase a "remove" X.env (eval a X.env) = eval a X.env := by rfl)
    (hfew : ((backTo cpos (starEach (e :: es) X.env)).all (fun x => !x.1) && (backToKw cpos (keywordEach [] X.env)).all (fun x => x.1.isSome)
      && decide ((e :: es).length + ([] : List Keyword).length + (if ([] : List Keyword).isEmpty then 0 else 1) < 30)) = true := by rfl)
    (hline : (apos.endLine == cpos.line) = true := by rfl) (hs : starEach (e :: es) X.env = (false, eval e X.env) :: starEach es X.env := by rfl) (hplain : (backTo cpos (starEach es X.env)).any (·.1) = false := by rfl) :
    PE' X W (.Call (.Attribute a "remove" apos) (e :: es) [] cpos) (mMt remM fa g) :=
  PE_imp (pe_bm PySem.F.plainAttrs_list PySem.F.slot_list_remove PySem.F.type_list_remove (mt_removeD hu) ho hl hbase hfew hline hs hplain) fun _ _ _ h => rd_mt v_rem h
end
end MK
end
section
set_option maxHeartbeats 2000000
namespace MK
open PySem PySem.Spec PyProof.Rows L2
def HasB (b : Bool) (h : Heap) (a : Addr) (items : Array Value) : Prop := if b = true then h.IsTuple a items else h.IsList a items
def IterB (b : Bool) (h : Heap) (it a : Addr) (i : Nat) : Prop := if b = true then h.IsTupleIter it a i else h.IsListIter it a i
theorem IterB.obj {b : Bool} {h : Heap} {it a : Addr} {i : Nat} (r : IterB b h it a i) : ∃ o, h.get? it = some o ∧ ∀ v, o.data ≠ .cell v := by
  cases b
  · obtain ⟨o, e, _, d⟩ := r
    exact ⟨o, e, fun v q => by rw [d] at q; cases q⟩
  · obtain ⟨o, e, _, d⟩ := r
    exact ⟨o, e, fun v q => by rw [d] at q; cases q⟩
theorem HasB.lt {b : Bool} {h : Heap} {a : Addr} {items : Array Value} (r : HasB b h a items) : a < h.objs.size := by
  cases b
  · obtain ⟨o, e, _⟩ := r; exact Heap.lt_size e
  · obtain ⟨o, e, _⟩ := r; exact Heap.lt_size e
end MK
end
section
set_option maxHeartbeats 2000000
namespace MK
open PySem PySem.Spec PyProof.Rows L2
inductive TabE (w : World) : List DictEntry → List (Str × Str) → Prop where
  | nil : TabE w [] []
  | cons {k v : Str} {t u : Tok} {n : Int} {es : List DictEntry} {tab : List (Str × Str)} : n = hashStr w k → TabE w es tab → TabE w (⟨n, .str k t, .str v u⟩ :: es) ((k, v) :: tab)
def DictC (w : World) (K : PySem.W.Frag) (mg : Str → Option Value) (x : Str) (tab : List (Str × Str)) : Prop :=
  ∃ (A : Addr) (o : Obj) (es : Array DictEntry) (ep : Nat), mg x = some (.ref A) ∧ (A == sysModules) = false ∧ K.lookup A = some o ∧ o.ExactDict ∧ o.data = .dict es ep ∧ TabE w es.toList tab
theorem DictC.of {w : World} {K : PySem.W.Frag} {mg : Str → Option Value} {h : Heap} {x : Str} {tab : List (Str × Str)} (X : K.In h) (G : h.Ns mainGlobals mg) {A : Addr} {es : Array DictEntry} {ep : Nat} (a : PySem.W.nsIn K mainGlobals x = some (some (.ref A)))
    (l : K.lookup A = some ⟨.type "dict", none, .dict es ep, #[]⟩) (n : (A == sysModules) = false) (e : TabE w es.toList tab) : DictC w K mg x tab := ⟨A, _, es, ep, PySem.W.mg_of X G a, n, l, ⟨rfl, rfl, rfl⟩, rfl, e⟩
end MK
end
namespace Law
open PySem PySem.Spec PyProof.Rows L2 MK
def top (i : Nat) : Stmt := PySem.Challenge.pw_markfilters_k31_whole_prints_told.main.body.getD i (.Pass ⟨0, 0, 0, 0⟩)
abbrev s_is_integer : Stmt := top 1
abbrev s_is_integer_within : Stmt := top 2
abbrev s_InvalidNumber_init : Stmt := inClass (top 5) 0
abbrev s_InvalidBits_init : Stmt := inClass (top 6) 0
abbrev s_InvalidRows_init : Stmt := inClass (top 7) 0
abbrev s_InvalidTable_init : Stmt := inClass (top 8) 0
abbrev s_Undefined_init : Stmt := inClass (top 9) 0
abbrev s_check_numbers : Stmt := top 16
abbrev s_is_row : Stmt := top 17
abbrev s_are_rows : Stmt := top 18
abbrev s_Table_init : Stmt := inClass (top 19) 0
abbrev s_Table_eq : Stmt := inClass (top 19) 1
abbrev s_is_print : Stmt := top 20
abbrev s_place : Stmt := top 21
abbrev s_places : Stmt := top 22
abbrev s_table_of : Stmt := top 23
abbrev s_print_table : Stmt := top 24
abbrev s_tells : Stmt := top 25
abbrev s_grown : Stmt := top 26
abbrev s_shrunk : Stmt := top 27
abbrev s_cut : Stmt := top 28
abbrev s_joined : Stmt := top 29
abbrev s_fits : Stmt := top 30
abbrev s_putt : Stmt := top 31
abbrev s_taken : Stmt := top 32
abbrev s_law_box : Stmt := top 34
abbrev s_law_take : Stmt := top 35
abbrev s_law_pick : Stmt := top 36
abbrev s_law_is_due : Stmt := top 37
abbrev s_law_power : Stmt := top 38
abbrev s_law_rows_of : Stmt := top 39
abbrev s_law_prints : Stmt := top 40
abbrev s_law_table : Stmt := top 41
abbrev s_law_refused : Stmt := top 42
abbrev s_law_turned : Stmt := top 43
abbrev s_law : Stmt := top 44
theorem sc_is_integer : FnScope ["value"] ["value"] (defScope s_is_integer) := ⟨rfl, rfl, rfl, by decide +kernel, rfl, by decide +kernel, by decide +kernel⟩
theorem sc_is_integer_within : FnScope ["value", "low", "high"] ["value", "low", "high"] (defScope s_is_integer_within) := ⟨rfl, rfl, rfl, by decide +kernel, rfl, by decide +kernel, by decide +kernel⟩
theorem sc_InvalidNumber_init : FnScope ["self", "value"] ["self", "value"] (defScope s_InvalidNumber_init) := ⟨rfl, rfl, rfl, by decide +kernel, rfl, by decide +kernel, by decide +kernel⟩
theorem sc_InvalidBits_init : FnScope ["self", "value"] ["self", "value"] (defScope s_InvalidBits_init) := ⟨rfl, rfl, rfl, by decide +kernel, rfl, by decide +kernel, by decide +kernel⟩
theorem sc_InvalidRows_init : FnScope ["self", "value"] ["self", "value"] (defScope s_InvalidRows_init) := ⟨rfl, rfl, rfl, by decide +kernel, rfl, by decide +kernel, by decide +kernel⟩
theorem sc_InvalidTable_init : FnScope ["self", "value"] ["self", "value"] (defScope s_InvalidTable_init) := ⟨rfl, rfl, rfl, by decide +kernel, rfl, by decide +kernel, by decide +kernel⟩
theorem sc_Undefined_init : FnScope ["self", "what"] ["self", "what"] (defScope s_Undefined_init) := ⟨rfl, rfl, rfl, by decide +kernel, rfl, by decide +kernel, by decide +kernel⟩
theorem sc_check_numbers : FnScope ["rooms", "bits"] ["rooms", "bits"] (defScope s_check_numbers) := ⟨rfl, rfl, rfl, by decide +kernel, rfl, by decide +kernel, by decide +kernel⟩
theorem sc_is_row : FnScope ["bits", "value", "least", "number"] ["bits", "value"] (defScope s_is_row) := ⟨rfl, rfl, rfl, by decide +kernel, rfl, by decide +kernel, by decide +kernel⟩
theorem sc_are_rows : FnScope ["rooms", "bits", "value", "row"] ["rooms", "bits", "value"] (defScope s_are_rows) := ⟨rfl, rfl, rfl, by decide +kernel, rfl, by decide +kernel, by decide +kernel⟩
theorem sc_Table_init : FnScope ["self", "rooms", "bits", "rows", "row"] ["self", "rooms", "bits", "rows"] (defScope s_Table_init) := ⟨rfl, rfl, rfl, by decide +kernel, rfl, by decide +kernel, by decide +kernel⟩
theorem sc_is_print : FnScope ["value"] ["value"] (defScope s_is_print) := ⟨rfl, rfl, rfl, by decide +kernel, rfl, by decide +kernel, by decide +kernel⟩
theorem sc_place : FnScope ["rooms", "bits", "number"] ["rooms", "bits", "number"] (defScope s_place) := ⟨rfl, rfl, rfl, by decide +kernel, rfl, by decide +kernel, by decide +kernel⟩
theorem sc_places : FnScope ["table", "room", "row", "number"] ["table"] (defScope s_places) := ⟨rfl, rfl, rfl, by decide +kernel, rfl, by decide +kernel, by decide +kernel⟩
theorem sc_table_of : FnScope ["rooms", "bits", "pairs", "rows", "room", "number", "at"] ["rooms", "bits", "pairs"] (defScope s_table_of) := ⟨rfl, rfl, rfl, by decide +kernel, rfl, by decide +kernel, by decide +kernel⟩
theorem sc_print_table : FnScope ["rooms", "bits", "prints", "one"] ["rooms", "bits", "prints"] (defScope s_print_table) := ⟨rfl, rfl, rfl, by decide +kernel, rfl, by decide +kernel, by decide +kernel⟩
theorem sc_tells : FnScope ["table", "number"] ["table", "number"] (defScope s_tells) := ⟨rfl, rfl, rfl, by decide +kernel, rfl, by decide +kernel, by decide +kernel⟩
theorem sc_grown : FnScope ["table", "rooms", "pairs", "room", "number"] ["table"] (defScope s_grown) := ⟨rfl, rfl, rfl, by decide +kernel, rfl, by decide +kernel, by decide +kernel⟩
theorem sc_shrunk : FnScope ["table", "half", "pairs", "room", "number"] ["table"] (defScope s_shrunk) := ⟨rfl, rfl, rfl, by decide +kernel, rfl, by decide +kernel, by decide +kernel⟩
theorem sc_cut : FnScope ["table", "bits", "room", "number"] ["table"] (defScope s_cut) := ⟨rfl, rfl, rfl, by decide +kernel, rfl, by decide +kernel, by decide +kernel⟩
theorem sc_joined : FnScope ["one", "other"] ["one", "other"] (defScope s_joined) := ⟨rfl, rfl, rfl, by decide +kernel, rfl, by decide +kernel, by decide +kernel⟩
theorem sc_fits : FnScope ["one", "other"] ["one", "other"] (defScope s_fits) := ⟨rfl, rfl, rfl, by decide +kernel, rfl, by decide +kernel, by decide +kernel⟩
theorem sc_putt : FnScope ["table", "number"] ["table", "number"] (defScope s_putt) := ⟨rfl, rfl, rfl, by decide +kernel, rfl, by decide +kernel, by decide +kernel⟩
theorem sc_taken : FnScope ["table", "number", "pairs"] ["table", "number"] (defScope s_taken) := ⟨rfl, rfl, rfl, by decide +kernel, rfl, by decide +kernel, by decide +kernel⟩
theorem sc_law_box : FnScope ["script", "k", "cell", "great"] ["script", "k"] (defScope s_law_box) := ⟨rfl, rfl, rfl, by decide +kernel, rfl, by decide +kernel, by decide +kernel⟩
theorem sc_law_take : FnScope ["box", "many", "got"] ["box", "many"] (defScope s_law_take) := ⟨rfl, rfl, rfl, by decide +kernel, rfl, by decide +kernel, by decide +kernel⟩
theorem sc_law_pick : FnScope ["box", "some"] ["box", "some"] (defScope s_law_pick) := ⟨rfl, rfl, rfl, by decide +kernel, rfl, by decide +kernel, by decide +kernel⟩
theorem sc_law_is_due : FnScope ["told", "due"] ["told", "due"] (defScope s_law_is_due) := ⟨rfl, rfl, rfl, by decide +kernel, rfl, by decide +kernel, by decide +kernel⟩
theorem sc_law_power : FnScope ["bits"] ["bits"] (defScope s_law_power) := ⟨rfl, rfl, rfl, by decide +kernel, rfl, by decide +kernel, by decide +kernel⟩
theorem sc_law_rows_of : FnScope ["rooms", "bits", "prints", "rows", "one", "room", "row"] ["rooms", "bits", "prints"] (defScope s_law_rows_of) := ⟨rfl, rfl, rfl, by decide +kernel, rfl, by decide +kernel, by decide +kernel⟩
theorem sc_law_prints : FnScope ["box", "most", "found", "k", "one"] ["box", "most"] (defScope s_law_prints) := ⟨rfl, rfl, rfl, by decide +kernel, rfl, by decide +kernel, by decide +kernel⟩
theorem sc_law_table : FnScope ["box", "rooms", "bits", "prints"] ["box", "rooms", "bits", "prints"] (defScope s_law_table) := ⟨rfl, rfl, rfl, by decide +kernel, rfl, by decide +kernel, by decide +kernel⟩
theorem sc_law_refused : FnScope ["table", "odd", "e"] ["table", "odd"] (defScope s_law_refused) := ⟨rfl, rfl, rfl, by decide +kernel, rfl, by decide +kernel, by decide +kernel⟩
theorem sc_law_turned : FnScope ["kind", "table", "e"] ["kind", "table"] (defScope s_law_turned) := ⟨rfl, rfl, rfl, by decide +kernel, rfl, by decide +kernel, by decide +kernel⟩
theorem sc_law : FnScope ["script", "box", "rooms", "bits", "prints", "table", "wide", "left", "told", "kind", "word", "none", "other", "more", "both", "number", "turned", "less", "half", "odd", "one"] ["script"] (defScope s_law) := ⟨rfl, rfl, rfl, by decide +kernel, rfl, by decide +kernel, by decide +kernel⟩
def subTab : List (Str × Str × Bool) := [("InvalidNumber", "InvalidNumber", true), ("InvalidNumber", "Undefined", false), ("InvalidBits", "InvalidNumber", false), ("InvalidBits", "Undefined", false), ("InvalidRows", "InvalidNumber", false), ("InvalidRows", "Undefined", false), ("InvalidTable", "InvalidNumber", false), ("InvalidTable", "Undefined", false), ("Undefined", "InvalidNumber", false), ("Undefined", "Undefined", true)]
structure Tx (K : PySem.W.Frag) (mg : Str → Option Value) : Prop where
  b_ValueError : mg "ValueError" = none
  b_abs : mg "abs" = none
  b_all : mg "all" = none
  b_bool : mg "bool" = none
  b_enumerate : mg "enumerate" = none
  b_int : mg "int" = none
  b_isinstance : mg "isinstance" = none
  b_len : mg "len" = none
  b_range : mg "range" = none
  b_sorted : mg "sorted" = none
  b_sum : mg "sum" = none
  b_tuple : mg "tuple" = none
  c_ROOMS : TupC K mg "ROOMS" [.int 1, .int 2, .int 4, .int 8]
  c_MOST_ROOMS : ∃ t, mg "MOST_ROOMS" = some (.int 8 t)
  c_MOST_BITS : ∃ t, mg "MOST_BITS" = some (.int 5 t)
  c_MOST_NUMBERS : ∃ t, mg "MOST_NUMBERS" = some (.int 24 t)
  c_PRINTS : ∃ t, mg "PRINTS" = some (.int 256 t)
  F_is_integer : FunOk K mg "is_integer" s_is_integer ["value"]
  F_is_integer_within : FunOk K mg "is_integer_within" s_is_integer_within ["value", "low", "high"]
  X_InvalidNumber : ExcFun K mg "InvalidNumber" "value" "InvalidNumber.__init__" s_InvalidNumber_init ["self", "value"]
  X_InvalidBits : ExcFun K mg "InvalidBits" "value" "InvalidBits.__init__" s_InvalidBits_init ["self", "value"]
  X_InvalidRows : ExcFun K mg "InvalidRows" "value" "InvalidRows.__init__" s_InvalidRows_init ["self", "value"]
  X_InvalidTable : ExcFun K mg "InvalidTable" "value" "InvalidTable.__init__" s_InvalidTable_init ["self", "value"]
  X_Undefined : ExcFun K mg "Undefined" "what" "Undefined.__init__" s_Undefined_init ["self", "what"]
  F_check_numbers : FunOk K mg "check_numbers" s_check_numbers ["rooms", "bits"]
  F_is_row : FunOk K mg "is_row" s_is_row ["bits", "value"]
  F_are_rows : FunOk K mg "are_rows" s_are_rows ["rooms", "bits", "value"]
  C_Table : ClsFun K mg "Table" "Table.__init__" s_Table_init ["self", "rooms", "bits", "rows"]
  M_Table_eq : MetFun K mg "Table" "__eq__" "Table.__eq__" s_Table_eq ["self", "other"]
  F_is_print : FunOk K mg "is_print" s_is_print ["value"]
  F_place : FunOk K mg "place" s_place ["rooms", "bits", "number"]
  F_places : FunOk K mg "places" s_places ["table"]
  F_table_of : FunOk K mg "table_of" s_table_of ["rooms", "bits", "pairs"]
  F_print_table : FunOk K mg "print_table" s_print_table ["rooms", "bits", "prints"]
  F_tells : FunOk K mg "tells" s_tells ["table", "number"]
  F_grown : FunOk K mg "grown" s_grown ["table"]
  F_shrunk : FunOk K mg "shrunk" s_shrunk ["table"]
  F_cut : FunOk K mg "cut" s_cut ["table"]
  F_joined : FunOk K mg "joined" s_joined ["one", "other"]
  F_fits : FunOk K mg "fits" s_fits ["one", "other"]
  F_putt : FunOk K mg "put" s_putt ["table", "number"]
  F_taken : FunOk K mg "taken" s_taken ["table", "number"]
  F_law_box : FunOk K mg "_law_box" s_law_box ["script", "k"]
  F_law_take : FunOk K mg "_law_take" s_law_take ["box", "many"]
  F_law_pick : FunOk K mg "_law_pick" s_law_pick ["box", "some"]
  F_law_is_due : FunOk K mg "_law_is_due" s_law_is_due ["told", "due"]
  F_law_power : FunOk K mg "_law_power" s_law_power ["bits"]
  F_law_rows_of : FunOk K mg "_law_rows_of" s_law_rows_of ["rooms", "bits", "prints"]
  F_law_prints : FunOk K mg "_law_prints" s_law_prints ["box", "most"]
  F_law_table : FunOk K mg "_law_table" s_law_table ["box", "rooms", "bits", "prints"]
  F_law_refused : FunOk K mg "_law_refused" s_law_refused ["table", "odd"]
  F_law_turned : FunOk K mg "_law_turned" s_law_turned ["kind", "table"]
  F_law : FunOk K mg "law" s_law ["script"]
  i_Table : IsOk K mg "Table" []
  f_Table_rooms : FldOk K mg "Table" "rooms"
  f_Table_bits : FldOk K mg "Table" "bits"
  f_Table_rows : FldOk K mg "Table" "rows"
  m_InvalidNumber : ∃ C, mg "InvalidNumber" = some (.ref C)
  m_Undefined : ∃ C, mg "Undefined" = some (.ref C)
  sub : SubOk K mg (subT subTab)
section
variable {P : Program} {w : World} {K : PySem.W.Frag} {mg : Str → Option Value} {base : Heap}
theorem x_InvalidNumber (T : Tx K mg) : ExcOk P w K mg base "InvalidNumber" "value" := exc_ok T.X_InvalidNumber sc_InvalidNumber_init fun g cdv A outer s H E => pss_one (ps_ost (pv 0) (pv 1))
theorem x_InvalidBits (T : Tx K mg) : ExcOk P w K mg base "InvalidBits" "value" := exc_ok T.X_InvalidBits sc_InvalidBits_init fun g cdv A outer s H E => pss_one (ps_ost (pv 0) (pv 1))
theorem x_InvalidRows (T : Tx K mg) : ExcOk P w K mg base "InvalidRows" "value" := exc_ok T.X_InvalidRows sc_InvalidRows_init fun g cdv A outer s H E => pss_one (ps_ost (pv 0) (pv 1))
theorem x_InvalidTable (T : Tx K mg) : ExcOk P w K mg base "InvalidTable" "value" := exc_ok T.X_InvalidTable sc_InvalidTable_init fun g cdv A outer s H E => pss_one (ps_ost (pv 0) (pv 1))
theorem x_Undefined (T : Tx K mg) : ExcOk P w K mg base "Undefined" "what" := exc_ok T.X_Undefined sc_Undefined_init fun g cdv A outer s H E => pss_one (ps_ost (pv 0) (pv 1))
noncomputable def m_is_integer : MS := mRet (mAndV (mIsi .int (mVar 0)) (mNotV (mIsi .bool (mVar 0))))
noncomputable def g_is_integer : MF := finM false 1 m_is_integer
theorem d_is_integer (T : Tx K mg) : DefOk P w K mg base 1 "is_integer" ["value"] g_is_integer := def_okF false T.F_is_integer sc_is_integer (fun f cdv A outer s H E hr => ss_one (s_ret (e_and (e_isi .int T.b_isinstance (by rfl) (by rfl) (by rfl) T.b_int (by decide +kernel) (e_var 0)) (e_and1 (e_notV (e_isi .bool T.b_isinstance (by rfl) (by rfl) (by rfl) T.b_bool (by decide +kernel) (e_var 0)))))))
noncomputable def m_place : MS := mRet (mTup (mCons (m2 modI (mVar 2) (mVar 0)) (mCons (m2 modI (m2 fdivI (mVar 2) (mVar 0)) (m2 shlI (mC (.int 1)) (mVar 1))) (mNil))))
noncomputable def g_place : MF := finM false 3 m_place
theorem d_place (T : Tx K mg) : DefOk P w K mg base 1 "place" ["rooms", "bits", "number"] g_place := def_okF false T.F_place sc_place (fun f cdv A outer s H E hr => ss_one (s_ret (e_tup (a_cons (e_mod (e_var 2) (e_var 0)) (a_cons (e_mod (e_fdiv (e_var 2) (e_var 0)) (e_shl (e_int) (e_var 1))) (a_nil))))))
noncomputable def m_places : MS := mRet (mLc2 true (mEnum (mCons (mFld "Table" "rows" (mVar 0)) (mNil))) [1, 2, 3] (gTupI 2 (gsCons (gSet 1) (gsCons (gSet 2) gsNil))) (mTB true) (mSrc (mVar 2)) [3] (gSet 3) (mTB true) (mTup (mCons (mVar 1) (mCons (mVar 3) (mNil)))))
noncomputable def g_places : MF := finM true 4 m_places
theorem d_places (T : Tx K mg) : DefOk P w K mg base 1 "places" ["table"] g_places := def_okF true T.F_places sc_places (fun f cdv A outer s H E hr => ss_one (s_ret (e_lc2 true [("room", 1), ("row", 2), ("number", 3)] [3] (CT.sub (ct_two 1 2) (by decide)) (ct_name 3) (by decide) rfl sc_places.nd (i_enum (by rfl) T.b_enumerate (a_cons (e_fld "Table" (e_var 0) (T.f_Table_rows)) (a_nil))) (blkOk_by (by kernel_rfl)) (fun _ _ _ _ _ => pg_two rfl (pg_name (i := 1) sc_places.nd rfl (by first | exact Or.inl rfl | exact Or.inr rfl)) (pg_name (i := 2) sc_places.nd rfl (by first | exact Or.inl rfl | exact Or.inr rfl))) (fun _ _ _ _ _ => ts_nil) (fun _ _ _ _ _ => i_seq (e_var 2)) (fun _ _ _ _ _ => (pg_name (i := 3) sc_places.nd rfl (by first | exact Or.inl rfl | exact Or.inr rfl))) (fun _ _ _ _ _ => ts_nil) (fun _ _ _ _ _ => e_tup (a_cons (e_var 1) (a_cons (e_var 3) (a_nil)))))))
noncomputable def m_law_box : MS := mSeq (mSet 2 (m2 addI (m2 mulI (mC (.int 7919)) (mVar 1)) (mC (.int 101)))) (mSeq (mIfS (mB (m2 (cmpI fun i j => decide (i < j)) (mVar 1) (mCall (pv1 lenI) (mCons (mVar 0) (mNil))))) (mSet 2 (mCall (pv1 absI) (mCons (m2 itemI (mVar 0) (mVar 1)) (mNil)))) (mIfS (mB (m2 (cmpI fun i j => decide (j < i)) (mCall (pv1 lenI) (mCons (mVar 0) (mNil))) (mC (.int 0)))) (mSet 2 (m2 addI (m2 mulI (m2 modI (mCall (pv1 intI) (mCons (mCall (pv1 absI) (mCons (m2 itemI (mVar 0) (m2 modI (mCall (pv1 intI) (mCons (mVar 1) (mNil))) (mCall (pv1 lenI) (mCons (mVar 0) (mNil))))) (mNil))) (mNil))) (mC (.int 1000000007))) (mC (.int 31))) (m2 mulI (mC (.int 7919)) (mVar 1)))) (mPass))) (mSeq (mSet 3 (m2 itemI (mLst false (mCons (mC (.int 0)) (mCons (mVar 2) (mNil)))) (mCall (pv1 intI) (mCons (m2 (cmpI fun i j => decide (j ≤ i)) (mVar 2) (m2 powI (mC (.int 10)) (mC (.int 18)))) (mNil))))) (mRet (mLst true (mCons (mVar 3) (mCons (m2 addI (m2 modI (mCall (pv1 intI) (mCons (m2 addI (m2 mulI (m2 modI (mCall (pv1 intI) (mCons (mVar 2) (mNil))) (mC (.int 1000000007))) (mC (.int 48271))) (m2 mulI (mC (.int 613)) (mVar 1))) (mNil))) (mC (.int 2147483647))) (mC (.int 1))) (mNil)))))))
noncomputable def g_law_box : MF := finM true 4 m_law_box
theorem d_law_box (T : Tx K mg) : DefOk P w K mg base 1 "_law_box" ["script", "k"] g_law_box := def_okF true T.F_law_box sc_law_box (fun f cdv A outer s H E hr => ss_cons (s_set 2 sc_law_box.nd (e_add (e_mul (e_int) (e_var 1)) (e_int)))
    (ss_cons (s_if (t_cmp (c_lt) (e_var 1) (e_callB call_len v_len (by rfl) T.b_len (by decide +kernel) (a_cons (e_var 0) (a_nil)))) (ss_one (s_set 2 sc_law_box.nd (e_callB call_abs v_abs (by rfl) T.b_abs (by decide +kernel) (a_cons (e_ix (e_var 0) (e_var 1)) (a_nil))))) (ss_one (s_if (t_cmp (c_gt) (e_callB call_len v_len (by rfl) T.b_len (by decide +kernel) (a_cons (e_var 0) (a_nil))) (e_int)) (ss_one (s_set 2 sc_law_box.nd (e_add (e_mul (e_mod (e_callTy call_int1 v_int (by rfl) T.b_int (by decide +kernel) (a_cons (e_callB call_abs v_abs (by rfl) T.b_abs (by decide +kernel) (a_cons (e_ix (e_var 0) (e_mod (e_callTy call_int1 v_int (by rfl) T.b_int (by decide +kernel) (a_cons (e_var 1) (a_nil))) (e_callB call_len v_len (by rfl) T.b_len (by decide +kernel) (a_cons (e_var 0) (a_nil))))) (a_nil))) (a_nil))) (e_int)) (e_int)) (e_mul (e_int) (e_var 1))))) (ss_nil))))
    (ss_cons (s_set 3 sc_law_box.nd (e_ix (e_lst false (a_cons (e_int) (a_cons (e_var 2) (a_nil)))) (e_callTy call_int1 v_int (by rfl) T.b_int (by decide +kernel) (a_cons (e_cmp (c_ge) (e_var 2) (e_pow (e_int) (e_int))) (a_nil)))))
    (ss_one (s_ret (e_lst true (a_cons (e_var 3) (a_cons (e_add (e_mod (e_callTy call_int1 v_int (by rfl) T.b_int (by decide +kernel) (a_cons (e_add (e_mul (e_mod (e_callTy call_int1 v_int (by rfl) T.b_int (by decide +kernel) (a_cons (e_var 2) (a_nil))) (e_int)) (e_int)) (e_mul (e_int) (e_var 1))) (a_nil))) (e_int)) (e_int)) (a_nil)))))))))
noncomputable def m_law_take : MS := mSeq (mIfS (mB (m2 (cmpI fun i j => decide (j < i)) (m2 itemI (mVar 0) (mC (.int 0))) (mC (.int 0)))) (mSeq (mSet 2 (m2 modI (mCall (pv1 intI) (mCons (m2 itemI (mVar 0) (mC (.int 0))) (mNil))) (mVar 1))) (mSeq (mPut (mVar 0) (mC (.int 0)) (m2 fdivI (m2 itemI (mVar 0) (mC (.int 0))) (mVar 1))) (mRet (mVar 2)))) (mPass)) (mSeq (mPut (mVar 0) (mC (.int 1)) (m2 modI (mCall (pv1 intI) (mCons (m2 addI (m2 mulI (m2 itemI (mVar 0) (mC (.int 1))) (mC (.int 39373))) (mC (.int 69621))) (mNil))) (mC (.int 2147483647)))) (mRet (m2 modI (mCall (pv1 intI) (mCons (m2 fdivI (m2 itemI (mVar 0) (mC (.int 1))) (mC (.int 8191))) (mNil))) (mVar 1))))
noncomputable def g_law_take : MF := finM false 3 m_law_take
theorem d_law_take (T : Tx K mg) : DefOk P w K mg base 1 "_law_take" ["box", "many"] g_law_take := def_okF false T.F_law_take sc_law_take (fun f cdv A outer s H E hr => ss_cons (s_if (t_cmp (c_gt) (e_ix (e_var 0) (e_int)) (e_int)) (ss_cons (s_set 2 sc_law_take.nd (e_mod (e_callTy call_int1 v_int (by rfl) T.b_int (by decide +kernel) (a_cons (e_ix (e_var 0) (e_int)) (a_nil))) (e_var 1)))
    (ss_cons (s_put (e_var 0) (e_int) (e_fdiv (e_ix (e_var 0) (e_int)) (e_var 1)))
    (ss_one (s_ret (e_var 2))))) (ss_nil))
    (ss_cons (s_put (e_var 0) (e_int) (e_mod (e_callTy call_int1 v_int (by rfl) T.b_int (by decide +kernel) (a_cons (e_add (e_mul (e_ix (e_var 0) (e_int)) (e_int)) (e_int)) (a_nil))) (e_int)))
    (ss_one (s_ret (e_mod (e_callTy call_int1 v_int (by rfl) T.b_int (by decide +kernel) (a_cons (e_fdiv (e_ix (e_var 0) (e_int)) (e_int)) (a_nil))) (e_var 1))))))
noncomputable def m_law_is_due : MS := mRet (mIte (mT (mVar 1)) (m2 (isI) (mVar 0) (mC (.bl true))) (m2 (isI) (mVar 0) (mC (.bl false))))
noncomputable def g_law_is_due : MF := finM false 2 m_law_is_due
theorem d_law_is_due (T : Tx K mg) : DefOk P w K mg base 1 "_law_is_due" ["told", "due"] g_law_is_due := def_okF false T.F_law_is_due sc_law_is_due (fun f cdv A outer s H E hr => ss_one (s_ret (e_ifx (t_val (e_var 1)) (e_cmp (c_is) (e_var 0) (e_bl)) (e_cmp (c_is) (e_var 0) (e_bl)))))
noncomputable def m_law_power : MS := mRet (m2 itemI (mLst false (mCons (mC (.int 1)) (mCons (mC (.int 2)) (mCons (mC (.int 4)) (mCons (mC (.int 8)) (mCons (mC (.int 16)) (mCons (mC (.int 32)) (mNil)))))))) (mVar 0))
noncomputable def g_law_power : MF := finM false 1 m_law_power
theorem d_law_power (T : Tx K mg) : DefOk P w K mg base 1 "_law_power" ["bits"] g_law_power := def_okF false T.F_law_power sc_law_power (fun f cdv A outer s H E hr => ss_one (s_ret (e_ix (e_lst false (a_cons (e_int) (a_cons (e_int) (a_cons (e_int) (a_cons (e_int) (a_cons (e_int) (a_cons (e_int) (a_nil)))))))) (e_var 0))))
noncomputable def m_is_integer_within : MS := mRet (mAndV (mCallD 1 g_is_integer (mCons (mVar 0) (mNil))) (mChain (cmpI fun i j => decide (i ≤ j)) (cmpI fun i j => decide (i ≤ j)) (mVar 1) (mVar 0) (mVar 2)))
noncomputable def g_is_integer_within : MF := finM false 3 m_is_integer_within
theorem d_is_integer_within (T : Tx K mg) : DefOk P w K mg base 2 "is_integer_within" ["value", "low", "high"] g_is_integer_within := def_okF false T.F_is_integer_within sc_is_integer_within (fun f cdv A outer s H E hr => ss_one (s_ret (e_and (e_call (d_is_integer T) (hr.mono (by decide)) (by rfl) tk_def (a_cons (e_var 0) (a_nil))) (e_and1 (e_chain (c_le) (c_le) (e_var 1) (e_var 0) (e_var 2))))))
noncomputable def m_law_pick : MS := mRet (m2 itemI (mVar 1) (mCallD 2 g_law_take (mCons (mVar 0) (mCons (mCall (pv1 lenI) (mCons (mVar 1) (mNil))) (mNil)))))
noncomputable def g_law_pick : MF := finM false 2 m_law_pick
theorem d_law_pick (T : Tx K mg) : DefOk P w K mg base 2 "_law_pick" ["box", "some"] g_law_pick := def_okF false T.F_law_pick sc_law_pick (fun f cdv A outer s H E hr => ss_one (s_ret (e_ix (e_var 1) (e_call (d_law_take T) (hr.mono (by decide)) (by rfl) tk_def (a_cons (e_var 0) (a_cons (e_callB call_len v_len (by rfl) T.b_len (by decide +kernel) (a_cons (e_var 1) (a_nil))) (a_nil)))))))
noncomputable def m_law_rows_of : MS := mSeq (mSet 3 (mLc false (mRng1 (mCons (mVar 0) (mNil))) [5] (gSet 5) (mTB true) (mLst true (mNil)))) (mSeq (mFor (mSrc (mVar 2)) (gSet 4) (mExpr (mMt appM (m2 itemI (mVar 3) (m2 modI (mCall (pv1 intI) (mCons (mVar 4) (mNil))) (mVar 0))) (mCons (m2 modI (mCall (pv1 intI) (mCons (m2 fdivI (mVar 4) (mVar 0)) (mNil))) (mCallD 1 g_law_power (mCons (mVar 1) (mNil)))) (mNil))))) (mRet (mCall (pv1 tupleI) (mCons (mLc false (mSrc (mVar 3)) [6] (gSet 6) (mTB true) (mCall (pv1 tupleI) (mCons (mCall (sortM false) (mCons (mVar 6) (mNil))) (mNil)))) (mNil)))))
noncomputable def g_law_rows_of : MF := finM false 7 m_law_rows_of
theorem d_law_rows_of (T : Tx K mg) : DefOk P w K mg base 2 "_law_rows_of" ["rooms", "bits", "prints"] g_law_rows_of := def_okF false T.F_law_rows_of sc_law_rows_of (fun f cdv A outer s H E hr => ss_cons (s_setLc false 3 [("room", 5)] (ct_name 5) rfl sc_law_rows_of.nd (i_rng1 (by rfl) T.b_range (a_cons (e_var 0) (a_nil))) (blkOk_by (by kernel_rfl)) (fun _ _ _ _ _ => (pg_name (i := 5) sc_law_rows_of.nd rfl (by first | exact Or.inl rfl | exact Or.inr rfl))) (fun _ _ _ _ _ => ts_nil) (fun _ _ _ _ _ => e_lst true (a_nil)))
    (ss_cons (s_for po_def rfl (i_seq (e_var 2)) (g_name 4 sc_law_rows_of.nd) (ss_one (s_expr (e_append (e_ix (e_var 3) (e_mod (e_callTy call_int1 v_int (by rfl) T.b_int (by decide +kernel) (a_cons (e_var 4) (a_nil))) (e_var 0))) (a_cons (e_mod (e_callTy call_int1 v_int (by rfl) T.b_int (by decide +kernel) (a_cons (e_fdiv (e_var 4) (e_var 0)) (a_nil))) (e_call (d_law_power T) (hr.mono (by decide)) (by rfl) tk_def (a_cons (e_var 1) (a_nil)))) (a_nil))))))
    (ss_one (s_ret (e_callTy call_tuple_of v_tuple (by rfl) T.b_tuple (by decide +kernel) (a_cons (e_lc false [("row", 6)] (ct_name 6) rfl sc_law_rows_of.nd (i_seq (e_var 3)) (blkOk_by (by kernel_rfl)) (fun _ _ _ _ _ => (pg_name (i := 6) sc_law_rows_of.nd rfl (by first | exact Or.inl rfl | exact Or.inr rfl))) (fun _ _ _ _ _ => ts_nil) (fun _ _ _ _ _ => e_callTy call_tuple_of v_tuple (by rfl) T.b_tuple (by decide +kernel) (a_cons (e_callB cr_sortedI (v_sorted false) (by rfl) T.b_sorted (by decide +kernel) (a_cons (e_var 6) (a_nil))) (a_nil)))) (a_nil)))))))
noncomputable def m_check_numbers : MS := mSeq (mIfS (mIte (mNot (mT (mCallD 1 g_is_integer (mCons (mVar 0) (mNil))))) (mTB true) (mB (m2 (notInI) (mVar 0) (mC (.tup [.int 1, .int 2, .int 4, .int 8]))))) (mRaise "InvalidNumber" "value" (mVar 0)) (mPass)) (mIfS (mNot (mT (mCallD 3 g_is_integer_within (mCons (mVar 1) (mCons (mC (.int 0)) (mCons (mC (.int 5)) (mNil))))))) (mRaise "InvalidNumber" "value" (mVar 1)) (mPass))
noncomputable def g_check_numbers : MF := finM false 2 m_check_numbers
theorem d_check_numbers (T : Tx K mg) : DefOk P w K mg base 3 "check_numbers" ["rooms", "bits"] g_check_numbers := def_okF false T.F_check_numbers sc_check_numbers (fun f cdv A outer s H E hr => ss_cons (s_if (t_w (w_or (t_not (t_val (e_call (d_is_integer T) (hr.mono (by decide)) (by rfl) tk_def (a_cons (e_var 0) (a_nil))))) (w_or1 (t_cmp (c_notIn (hu65 hr)) (e_var 0) (e_gT T.c_ROOMS (fun _ _ => .cons (.int _) (.cons (.int _) (.cons (.int _) (.cons (.int _) (.nil)))))))))) (ss_one (s_raise (x_InvalidNumber T) (by rfl) (hr.mono (by decide)) (by rfl) tk_def (e_var 0))) (ss_nil))
    (ss_one (s_if (t_not (t_val (e_call (d_is_integer_within T) (hr.mono (by decide)) (by rfl) tk_def (a_cons (e_var 1) (a_cons (e_int) (a_cons (e_gI T.c_MOST_BITS) (a_nil))))))) (ss_one (s_raise (x_InvalidNumber T) (by rfl) (hr.mono (by decide)) (by rfl) tk_def (e_var 1))) (ss_nil))))
noncomputable def m_is_row : MS := mSeq (mIfS (mNot (mT (mIsi .tup (mVar 1)))) (mRet (mC (.bl false))) (mPass)) (mSeq (mSet 2 (mC (.int 0))) (mSeq (mFor (mSrc (mVar 1)) (gSet 3) (mSeq (mIfS (mNot (mT (mCallD 3 g_is_integer_within (mCons (mVar 3) (mCons (mVar 2) (mCons (m2 subI (m2 shlI (mC (.int 1)) (mVar 0)) (mC (.int 1))) (mNil))))))) (mRet (mC (.bl false))) (mPass)) (mSet 2 (mVar 3)))) (mRet (mC (.bl true)))))
noncomputable def g_is_row : MF := finM false 4 m_is_row
theorem d_is_row (T : Tx K mg) : DefOk P w K mg base 3 "is_row" ["bits", "value"] g_is_row := def_okF false T.F_is_row sc_is_row (fun f cdv A outer s H E hr => ss_cons (s_if (t_not (t_val (e_isi .tup T.b_isinstance (by rfl) (by rfl) (by rfl) T.b_tuple (by decide +kernel) (e_var 1)))) (ss_one (s_ret (e_bl))) (ss_nil))
    (ss_cons (s_set 2 sc_is_row.nd (e_int))
    (ss_cons (s_for po_def rfl (i_seq (e_var 1)) (g_name 3 sc_is_row.nd) (ss_cons (s_if (t_not (t_val (e_call (d_is_integer_within T) (hr.mono (by decide)) (by rfl) tk_def (a_cons (e_var 3) (a_cons (e_var 2) (a_cons (e_sub (e_shl (e_int) (e_var 0)) (e_int)) (a_nil))))))) (ss_one (s_ret (e_bl))) (ss_nil))
    (ss_one (s_set 2 sc_is_row.nd (e_var 3)))))
    (ss_one (s_ret (e_bl))))))
noncomputable def m_is_print : MS := mRet (mCallD 3 g_is_integer_within (mCons (mVar 0) (mCons (mC (.int 0)) (mCons (m2 subI (mC (.int 256)) (mC (.int 1))) (mNil)))))
noncomputable def g_is_print : MF := finM false 1 m_is_print
theorem d_is_print (T : Tx K mg) : DefOk P w K mg base 3 "is_print" ["value"] g_is_print := def_okF false T.F_is_print sc_is_print (fun f cdv A outer s H E hr => ss_one (s_ret (e_call (d_is_integer_within T) (hr.mono (by decide)) (by rfl) tk_def (a_cons (e_var 0) (a_cons (e_int) (a_cons (e_sub (e_gI T.c_PRINTS) (e_int)) (a_nil)))))))
noncomputable def m_fits : MS := mSeq (mIfS (mIte (mNot (mT (mIsC "Table" [] (mVar 1)))) (mTB true) (mIte (mB (m2 (neI) (mFld "Table" "rooms" (mVar 1)) (mFld "Table" "rooms" (mVar 0)))) (mTB true) (mB (m2 (neI) (mFld "Table" "bits" (mVar 1)) (mFld "Table" "bits" (mVar 0)))))) (mRet (mC (.bl false))) (mPass)) (mRet (m2 (cmpI fun i j => decide (i ≤ j)) (m2 addI (mCall (pv1 lenI) (mCons (mCallD 1 g_places (mCons (mVar 0) (mNil))) (mNil))) (mCall (pv1 lenI) (mCons (mCallD 1 g_places (mCons (mVar 1) (mNil))) (mNil)))) (mC (.int 24))))
noncomputable def g_fits : MF := finM false 2 m_fits
theorem d_fits (T : Tx K mg) : DefOk P w K mg base 3 "fits" ["one", "other"] g_fits := def_okF false T.F_fits sc_fits (fun f cdv A outer s H E hr => ss_cons (s_if (t_w (w_or (t_not (t_val (e_isC T.i_Table T.b_isinstance (by rfl) (by rfl) (e_var 1)))) (w_or (t_cmp (c_ne hr.units) (e_fld "Table" (e_var 1) (T.f_Table_rooms)) (e_fld "Table" (e_var 0) (T.f_Table_rooms))) (w_or1 (t_cmp (c_ne hr.units) (e_fld "Table" (e_var 1) (T.f_Table_bits)) (e_fld "Table" (e_var 0) (T.f_Table_bits))))))) (ss_one (s_ret (e_bl))) (ss_nil))
    (ss_one (s_ret (e_cmp (c_le) (e_add (e_callB call_len v_len (by rfl) T.b_len (by decide +kernel) (a_cons (e_call (d_places T) (hr.mono (by decide)) (by rfl) tk_def (a_cons (e_var 0) (a_nil))) (a_nil))) (e_callB call_len v_len (by rfl) T.b_len (by decide +kernel) (a_cons (e_call (d_places T) (hr.mono (by decide)) (by rfl) tk_def (a_cons (e_var 1) (a_nil))) (a_nil)))) (e_gI T.c_MOST_NUMBERS)))))
noncomputable def m_law_prints : MS := mSeq (mSet 2 (mLst true (mNil))) (mSeq (mFor (mRng1 (mCons (mCallD 2 g_law_pick (mCons (mVar 0) (mCons (mLst false (mCons (mVar 1) (mCons (mCallD 2 g_law_take (mCons (mVar 0) (mCons (m2 addI (mVar 1) (mC (.int 1))) (mNil)))) (mCons (mCallD 2 g_law_take (mCons (mVar 0) (mCons (m2 addI (mVar 1) (mC (.int 1))) (mNil)))) (mCons (mCallD 2 g_law_take (mCons (mVar 0) (mCons (m2 addI (mVar 1) (mC (.int 1))) (mNil)))) (mNil)))))) (mNil)))) (mNil))) (gSet 3) (mSeq (mSet 4 (mCallD 2 g_law_take (mCons (mVar 0) (mCons (mC (.int 256)) (mNil))))) (mSeq (mIfS (mIte (mB (m2 (neI) (mVar 2) (mLst false (mNil)))) (mB (m2 (eqI) (mCallD 2 g_law_take (mCons (mVar 0) (mCons (mC (.int 3)) (mNil)))) (mC (.int 0)))) (mTB false)) (mSet 4 (m2 modI (mCall (pv1 intI) (mCons (m2 addI (mCallD 2 g_law_pick (mCons (mVar 0) (mCons (mVar 2) (mNil)))) (mCallD 2 g_law_pick (mCons (mVar 0) (mCons (mLst false (mCons (mC (.int 0)) (mCons (mC (.int 0)) (mCons (mC (.int 16)) (mCons (mC (.int 64)) (mCons (mC (.int 128)) (mNil))))))) (mNil))))) (mNil))) (mC (.int 256)))) (mPass)) (mExpr (mMt appM (mVar 2) (mCons (mVar 4) (mNil))))))) (mRet (mCall (pv1 tupleI) (mCons (mVar 2) (mNil)))))
noncomputable def g_law_prints : MF := finM false 5 m_law_prints
theorem d_law_prints (T : Tx K mg) : DefOk P w K mg base 3 "_law_prints" ["box", "most"] g_law_prints := def_okF false T.F_law_prints sc_law_prints (fun f cdv A outer s H E hr => ss_cons (s_set 2 sc_law_prints.nd (e_lst true (a_nil)))
    (ss_cons (s_for po_def rfl (i_rng1 (by rfl) T.b_range (a_cons (e_call (d_law_pick T) (hr.mono (by decide)) (by rfl) tk_def (a_cons (e_var 0) (a_cons (e_lst false (a_cons (e_var 1) (a_cons (e_call (d_law_take T) (hr.mono (by decide)) (by rfl) tk_def (a_cons (e_var 0) (a_cons (e_add (e_var 1) (e_int)) (a_nil)))) (a_cons (e_call (d_law_take T) (hr.mono (by decide)) (by rfl) tk_def (a_cons (e_var 0) (a_cons (e_add (e_var 1) (e_int)) (a_nil)))) (a_cons (e_call (d_law_take T) (hr.mono (by decide)) (by rfl) tk_def (a_cons (e_var 0) (a_cons (e_add (e_var 1) (e_int)) (a_nil)))) (a_nil)))))) (a_nil)))) (a_nil))) (g_name 3 sc_law_prints.nd) (ss_cons (s_set 4 sc_law_prints.nd (e_call (d_law_take T) (hr.mono (by decide)) (by rfl) tk_def (a_cons (e_var 0) (a_cons (e_int) (a_nil)))))
    (ss_cons (s_if (t_w (w_and (t_cmp (c_ne hr.units) (e_var 2) (e_lst false (a_nil))) (w_and1 (t_cmp (c_eq hr.units) (e_call (d_law_take T) (hr.mono (by decide)) (by rfl) tk_def (a_cons (e_var 0) (a_cons (e_int) (a_nil)))) (e_int))))) (ss_one (s_set 4 sc_law_prints.nd (e_mod (e_callTy call_int1 v_int (by rfl) T.b_int (by decide +kernel) (a_cons (e_add (e_call (d_law_pick T) (hr.mono (by decide)) (by rfl) tk_def (a_cons (e_var 0) (a_cons (e_var 2) (a_nil)))) (e_call (d_law_pick T) (hr.mono (by decide)) (by rfl) tk_def (a_cons (e_var 0) (a_cons (e_lst false (a_cons (e_int) (a_cons (e_int) (a_cons (e_int) (a_cons (e_int) (a_cons (e_int) (a_nil))))))) (a_nil))))) (a_nil))) (e_int)))) (ss_nil))
    (ss_one (s_expr (e_append (e_var 2) (a_cons (e_var 4) (a_nil))))))))
    (ss_one (s_ret (e_callTy call_tuple_of v_tuple (by rfl) T.b_tuple (by decide +kernel) (a_cons (e_var 2) (a_nil)))))))
noncomputable def m_are_rows : MS := mSeq (mIfS (mIte (mNot (mT (mIsi .tup (mVar 2)))) (mTB true) (mB (m2 (neI) (mCall (pv1 lenI) (mCons (mVar 2) (mNil))) (mVar 0)))) (mRet (mC (.bl false))) (mPass)) (mSeq (mIfS (mNot (mT (mCall (pv1 allI) (mCons (mLc false (mSrc (mVar 2)) [3] (gSet 3) (mTB true) (mCallD 2 g_is_row (mCons (mVar 1) (mCons (mVar 3) (mNil))))) (mNil))))) (mRet (mC (.bl false))) (mPass)) (mRet (m2 (cmpI fun i j => decide (i ≤ j)) (mCall (pv1 sumI) (mCons (mLc false (mSrc (mVar 2)) [3] (gSet 3) (mTB true) (mCall (pv1 lenI) (mCons (mVar 3) (mNil)))) (mNil))) (mC (.int 24)))))
noncomputable def g_are_rows : MF := finM false 4 m_are_rows
theorem d_are_rows (T : Tx K mg) : DefOk P w K mg base 4 "are_rows" ["rooms", "bits", "value"] g_are_rows := def_okF false T.F_are_rows sc_are_rows (fun f cdv A outer s H E hr => ss_cons (s_if (t_w (w_or (t_not (t_val (e_isi .tup T.b_isinstance (by rfl) (by rfl) (by rfl) T.b_tuple (by decide +kernel) (e_var 2)))) (w_or1 (t_cmp (c_ne hr.units) (e_callB call_len v_len (by rfl) T.b_len (by decide +kernel) (a_cons (e_var 2) (a_nil))) (e_var 0))))) (ss_one (s_ret (e_bl))) (ss_nil))
    (ss_cons (s_if (t_not (t_val (e_callB (cr_all (by rfl)) v_all (by rfl) T.b_all (by decide +kernel) (a_cons (e_lc false [("row", 3)] (ct_name 3) rfl sc_are_rows.nd (i_seq (e_var 2)) (blkOk_by (by kernel_rfl)) (fun _ _ _ _ _ => (pg_name (i := 3) sc_are_rows.nd rfl (by first | exact Or.inl rfl | exact Or.inr rfl))) (fun _ _ _ _ _ => ts_nil) (fun _ _ _ _ _ => e_call (d_is_row T) (hr.mono (by decide)) (by rfl) takes0 (a_cons (e_var 1) (a_cons (e_var 3) (a_nil))))) (a_nil))))) (ss_one (s_ret (e_bl))) (ss_nil))
    (ss_one (s_ret (e_cmp (c_le) (e_callB (cr_sum (by rfl)) v_sum (by rfl) T.b_sum (by decide +kernel) (a_cons (e_lc false [("row", 3)] (ct_name 3) rfl sc_are_rows.nd (i_seq (e_var 2)) (blkOk_by (by kernel_rfl)) (fun _ _ _ _ _ => (pg_name (i := 3) sc_are_rows.nd rfl (by first | exact Or.inl rfl | exact Or.inr rfl))) (fun _ _ _ _ _ => ts_nil) (fun _ _ _ _ _ => e_callB call_len v_len (by rfl) T.b_len (by decide +kernel) (a_cons (e_var 3) (a_nil)))) (a_nil))) (e_gI T.c_MOST_NUMBERS))))))
noncomputable def m_tells : MS := mSeq (mIfS (mNot (mT (mCallD 1 g_is_print (mCons (mVar 1) (mNil))))) (mRaise "InvalidNumber" "value" (mVar 1)) (mPass)) (mRet (m2 (inI) (mCallD 3 g_place (mCons (mFld "Table" "rooms" (mVar 0)) (mCons (mFld "Table" "bits" (mVar 0)) (mCons (mVar 1) (mNil))))) (mCallD 1 g_places (mCons (mVar 0) (mNil)))))
noncomputable def g_tells : MF := finM false 2 m_tells
theorem d_tells (T : Tx K mg) : DefOk P w K mg base 4 "tells" ["table", "number"] g_tells := def_okF false T.F_tells sc_tells (fun f cdv A outer s H E hr => ss_cons (s_if (t_not (t_val (e_call (d_is_print T) (hr.mono (by decide)) (by rfl) tk_def (a_cons (e_var 1) (a_nil))))) (ss_one (s_raise (x_InvalidNumber T) (by rfl) (hr.mono (by decide)) (by rfl) tk_def (e_var 1))) (ss_nil))
    (ss_one (s_ret (e_cmp (c_in (hu65 hr)) (e_call (d_place T) (hr.mono (by decide)) (by rfl) tk_def (a_cons (e_fld "Table" (e_var 0) (T.f_Table_rooms)) (a_cons (e_fld "Table" (e_var 0) (T.f_Table_bits)) (a_cons (e_var 1) (a_nil))))) (e_call (d_places T) (hr.mono (by decide)) (by rfl) tk_def (a_cons (e_var 0) (a_nil)))))))
noncomputable def m_Table_init : MS := mSeq (mExpr (mCallD 2 g_check_numbers (mCons (mVar 1) (mCons (mVar 2) (mNil))))) (mSeq (mIfS (mNot (mT (mCallD 3 g_are_rows (mCons (mVar 1) (mCons (mVar 2) (mCons (mVar 3) (mNil))))))) (mRaise "InvalidRows" "value" (mVar 3)) (mPass)) (mSeq (mPutF "Table" "rooms" (mVar 0) (mVar 1)) (mSeq (mPutF "Table" "bits" (mVar 0) (mVar 2)) (mPutF "Table" "rows" (mVar 0) (mCall (pv1 tupleI) (mCons (mLc false (mSrc (mVar 3)) [4] (gSet 4) (mTB true) (mCall (pv1 tupleI) (mCons (mVar 4) (mNil)))) (mNil)))))))
noncomputable def g_Table_init : MF := finM false 5 m_Table_init
theorem d_Table_init (T : Tx K mg) : ClsOk P w K mg base 5 "Table" ["self", "rooms", "bits", "rows"] g_Table_init := cls_ok false T.C_Table sc_Table_init (fun f cdv A outer s H E hr => ss_cons (s_expr (e_call (d_check_numbers T) (hr.mono (by decide)) (by rfl) tk_def (a_cons (e_var 1) (a_cons (e_var 2) (a_nil)))))
    (ss_cons (s_if (t_not (t_val (e_call (d_are_rows T) (hr.mono (by decide)) (by rfl) tk_def (a_cons (e_var 1) (a_cons (e_var 2) (a_cons (e_var 3) (a_nil))))))) (ss_one (s_raise (x_InvalidRows T) (by rfl) (hr.mono (by decide)) (by rfl) tk_def (e_var 3))) (ss_nil))
    (ss_cons (s_fld "Table" (e_var 0) (e_var 1) (T.f_Table_rooms))
    (ss_cons (s_fld "Table" (e_var 0) (e_var 2) (T.f_Table_bits))
    (ss_one (s_fld "Table" (e_var 0) (e_callTy call_tuple_of v_tuple (by rfl) T.b_tuple (by decide +kernel) (a_cons (e_lc false [("row", 4)] (ct_name 4) rfl sc_Table_init.nd (i_seq (e_var 3)) (blkOk_by (by kernel_rfl)) (fun _ _ _ _ _ => (pg_name (i := 4) sc_Table_init.nd rfl (by first | exact Or.inl rfl | exact Or.inr rfl))) (fun _ _ _ _ _ => ts_nil) (fun _ _ _ _ _ => e_callTy call_tuple_of v_tuple (by rfl) T.b_tuple (by decide +kernel) (a_cons (e_var 4) (a_nil)))) (a_nil))) (T.f_Table_rows)))))))
noncomputable def m_law_refused : MS := mSeq (mTry (subT subTab) (mExpr (mCallD 2 g_tells (mCons (mVar 0) (mCons (mVar 1) (mNil))))) [("InvalidNumber", 2, fun a cls d => mRet (mTup (mCons (mC (.str "number")) (mCons (mXf a cls d "value" (mVar 2)) (mNil)))))]) (mRet (mTup (mCons (mC (.str "none")) (mCons (mC .non) (mNil)))))
noncomputable def g_law_refused : MF := finM false 3 m_law_refused
theorem d_law_refused (T : Tx K mg) : DefOk P w K mg base 5 "_law_refused" ["table", "odd"] g_law_refused := def_okF false T.F_law_refused sc_law_refused (fun f cdv A outer s H E hr => ss_cons (s_try rfl rfl sc_law_refused.nd tk_def T.sub (fun W pn xe tk hp => ss_one (s_expr (e_call (d_tells T) (hr.mono (by decide)) (by rfl) tk (a_cons (e_var 0) (a_cons (e_var 1) (a_nil)))))) (.cons (i := 2) rfl rfl rfl (by decide) T.m_InvalidNumber (fun a oe cls d pn hz hf => ss_one (s_ret (e_tup (a_cons (e_str) (a_cons (e_xf hz hf (e_var 2)) (a_nil)))))) (.nil)))
    (ss_one (s_ret (e_tup (a_cons (e_str) (a_cons (e_non) (a_nil)))))))
noncomputable def m_table_of : MS := mSeq (mSet 3 (mLc false (mRng1 (mCons (mVar 0) (mNil))) [6] (gSet 6) (mTB true) (mCall (pv1 tupleI) (mCons (mCall (sortM false) (mCons (mLc false (mSrc (mVar 2)) [4, 5] (gTupI 2 (gsCons (gSet 4) (gsCons (gSet 5) gsNil))) (mB (m2 (eqI) (mVar 4) (mVar 6))) (mVar 5)) (mNil))) (mNil))))) (mRet (mMake false "Table" 4 g_Table_init (mCons (mVar 0) (mCons (mVar 1) (mCons (mCall (pv1 tupleI) (mCons (mVar 3) (mNil))) (mNil))))))
noncomputable def g_table_of : MF := finM false 7 m_table_of
theorem d_table_of (T : Tx K mg) : DefOk P w K mg base 7 "table_of" ["rooms", "bits", "pairs"] g_table_of := def_okF false T.F_table_of sc_table_of (fun f cdv A outer s H E hr => ss_cons (s_setLc false 3 [("at", 6)] (ct_name 6) rfl sc_table_of.nd (i_rng1 (by rfl) T.b_range (a_cons (e_var 0) (a_nil))) (blkOk_by (by kernel_rfl)) (fun _ _ _ _ _ => (pg_name (i := 6) sc_table_of.nd rfl (by first | exact Or.inl rfl | exact Or.inr rfl))) (fun _ _ _ _ _ => ts_nil) (fun _ _ _ _ _ => e_callTy call_tuple_of v_tuple (by rfl) T.b_tuple (by decide +kernel) (a_cons (e_callB cr_sortedI (v_sorted false) (by rfl) T.b_sorted (by decide +kernel) (a_cons (e_lc false [("room", 4), ("number", 5)] (ct_two 4 5) rfl sc_table_of.nd (i_seq (e_var 2)) (blkOk_by (by kernel_rfl)) (fun _ _ _ _ _ => pg_two rfl (pg_name (i := 4) sc_table_of.nd rfl (by first | exact Or.inl rfl | exact Or.inr rfl)) (pg_name (i := 5) sc_table_of.nd rfl (by first | exact Or.inl rfl | exact Or.inr rfl))) (fun _ _ _ _ _ => ts_one (t_cmp (c_eq hr.units) (e_var 4) (e_var 6))) (fun _ _ _ _ _ => e_var 5)) (a_nil))) (a_nil))))
    (ss_one (s_ret (e_make false (d_Table_init T) (hr.mono (by decide)) (by rfl) tk_def (a_cons (e_var 0) (a_cons (e_var 1) (a_cons (e_callTy call_tuple_of v_tuple (by rfl) T.b_tuple (by decide +kernel) (a_cons (e_var 3) (a_nil))) (a_nil))))))))
noncomputable def m_print_table : MS := mSeq (mExpr (mCallD 2 g_check_numbers (mCons (mVar 0) (mCons (mVar 1) (mNil))))) (mSeq (mIfS (mIte (mNot (mT (mIsi .tup (mVar 2)))) (mTB true) (mIte (mB (m2 (cmpI fun i j => decide (j < i)) (mCall (pv1 lenI) (mCons (mVar 2) (mNil))) (mC (.int 24)))) (mTB true) (mNot (mT (mCall (pv1 allI) (mCons (mLc false (mSrc (mVar 2)) [3] (gSet 3) (mTB true) (mCallD 1 g_is_print (mCons (mVar 3) (mNil)))) (mNil))))))) (mRaise "InvalidBits" "value" (mVar 2)) (mPass)) (mRet (mCallD 3 g_table_of (mCons (mVar 0) (mCons (mVar 1) (mCons (mLc false (mSrc (mVar 2)) [3] (gSet 3) (mTB true) (mCallD 3 g_place (mCons (mVar 0) (mCons (mVar 1) (mCons (mVar 3) (mNil)))))) (mNil)))))))
noncomputable def g_print_table : MF := finM false 4 m_print_table
theorem d_print_table (T : Tx K mg) : DefOk P w K mg base 8 "print_table" ["rooms", "bits", "prints"] g_print_table := def_okF false T.F_print_table sc_print_table (fun f cdv A outer s H E hr => ss_cons (s_expr (e_call (d_check_numbers T) (hr.mono (by decide)) (by rfl) tk_def (a_cons (e_var 0) (a_cons (e_var 1) (a_nil)))))
    (ss_cons (s_if (t_w (w_or (t_not (t_val (e_isi .tup T.b_isinstance (by rfl) (by rfl) (by rfl) T.b_tuple (by decide +kernel) (e_var 2)))) (w_or (t_cmp (c_gt) (e_callB call_len v_len (by rfl) T.b_len (by decide +kernel) (a_cons (e_var 2) (a_nil))) (e_gI T.c_MOST_NUMBERS)) (w_or1 (t_not (t_val (e_callB (cr_all (by rfl)) v_all (by rfl) T.b_all (by decide +kernel) (a_cons (e_lc false [("one", 3)] (ct_name 3) rfl sc_print_table.nd (i_seq (e_var 2)) (blkOk_by (by kernel_rfl)) (fun _ _ _ _ _ => (pg_name (i := 3) sc_print_table.nd rfl (by first | exact Or.inl rfl | exact Or.inr rfl))) (fun _ _ _ _ _ => ts_nil) (fun _ _ _ _ _ => e_call (d_is_print T) (hr.mono (by decide)) (by rfl) takes0 (a_cons (e_var 3) (a_nil)))) (a_nil))))))))) (ss_one (s_raise (x_InvalidBits T) (by rfl) (hr.mono (by decide)) (by rfl) tk_def (e_var 2))) (ss_nil))
    (ss_one (s_ret (e_call (d_table_of T) (hr.mono (by decide)) (by rfl) tk_def (a_cons (e_var 0) (a_cons (e_var 1) (a_cons (e_lc false [("one", 3)] (ct_name 3) rfl sc_print_table.nd (i_seq (e_var 2)) (blkOk_by (by kernel_rfl)) (fun _ _ _ _ _ => (pg_name (i := 3) sc_print_table.nd rfl (by first | exact Or.inl rfl | exact Or.inr rfl))) (fun _ _ _ _ _ => ts_nil) (fun _ _ _ _ _ => e_call (d_place T) (hr.mono (by decide)) (by rfl) takes0 (a_cons (e_var 0) (a_cons (e_var 1) (a_cons (e_var 3) (a_nil)))))) (a_nil)))))))))
noncomputable def m_grown : MS := mSeq (mIfS (mIte (mB (m2 (eqI) (mFld "Table" "bits" (mVar 0)) (mC (.int 0)))) (mTB true) (mB (m2 (eqI) (mFld "Table" "rooms" (mVar 0)) (mC (.int 8))))) (mRaise "Undefined" "what" (mC (.str "bits"))) (mPass)) (mSeq (mSet 1 (mFld "Table" "rooms" (mVar 0))) (mSeq (mSet 2 (mLc false (mSrc (mCallD 1 g_places (mCons (mVar 0) (mNil)))) [3, 4] (gTupI 2 (gsCons (gSet 3) (gsCons (gSet 4) gsNil))) (mTB true) (mTup (mCons (m2 addI (mVar 3) (m2 mulI (mVar 1) (m2 modI (mVar 4) (mC (.int 2))))) (mCons (m2 fdivI (mVar 4) (mC (.int 2))) (mNil)))))) (mRet (mCallD 3 g_table_of (mCons (m2 mulI (mVar 1) (mC (.int 2))) (mCons (m2 subI (mFld "Table" "bits" (mVar 0)) (mC (.int 1))) (mCons (mVar 2) (mNil))))))))
noncomputable def g_grown : MF := finM false 5 m_grown
theorem d_grown (T : Tx K mg) : DefOk P w K mg base 8 "grown" ["table"] g_grown := def_okF false T.F_grown sc_grown (fun f cdv A outer s H E hr => ss_cons (s_if (t_w (w_or (t_cmp (c_eq hr.units) (e_fld "Table" (e_var 0) (T.f_Table_bits)) (e_int)) (w_or1 (t_cmp (c_eq hr.units) (e_fld "Table" (e_var 0) (T.f_Table_rooms)) (e_gI T.c_MOST_ROOMS))))) (ss_one (s_raise (x_Undefined T) (by rfl) (hr.mono (by decide)) (by rfl) tk_def (e_str))) (ss_nil))
    (ss_cons (s_set 1 sc_grown.nd (e_fld "Table" (e_var 0) (T.f_Table_rooms)))
    (ss_cons (s_setLc false 2 [("room", 3), ("number", 4)] (ct_two 3 4) rfl sc_grown.nd (i_seq (e_call (d_places T) (hr.mono (by decide)) (by rfl) tk_def (a_cons (e_var 0) (a_nil)))) (blkOk_by (by kernel_rfl)) (fun _ _ _ _ _ => pg_two rfl (pg_name (i := 3) sc_grown.nd rfl (by first | exact Or.inl rfl | exact Or.inr rfl)) (pg_name (i := 4) sc_grown.nd rfl (by first | exact Or.inl rfl | exact Or.inr rfl))) (fun _ _ _ _ _ => ts_nil) (fun _ _ _ _ _ => e_tup (a_cons (e_add (e_var 3) (e_mul (e_var 1) (e_mod (e_var 4) (e_int)))) (a_cons (e_fdiv (e_var 4) (e_int)) (a_nil)))))
    (ss_one (s_ret (e_call (d_table_of T) (hr.mono (by decide)) (by rfl) tk_def (a_cons (e_mul (e_var 1) (e_int)) (a_cons (e_sub (e_fld "Table" (e_var 0) (T.f_Table_bits)) (e_int)) (a_cons (e_var 2) (a_nil))))))))))
noncomputable def m_shrunk : MS := mSeq (mIfS (mIte (mB (m2 (eqI) (mFld "Table" "rooms" (mVar 0)) (mC (.int 1)))) (mTB true) (mB (m2 (eqI) (mFld "Table" "bits" (mVar 0)) (mC (.int 5))))) (mRaise "Undefined" "what" (mC (.str "rooms"))) (mPass)) (mSeq (mSet 1 (m2 fdivI (mFld "Table" "rooms" (mVar 0)) (mC (.int 2)))) (mSeq (mSet 2 (mLc false (mSrc (mCallD 1 g_places (mCons (mVar 0) (mNil)))) [3, 4] (gTupI 2 (gsCons (gSet 3) (gsCons (gSet 4) gsNil))) (mTB true) (mTup (mCons (m2 modI (mVar 3) (mVar 1)) (mCons (m2 addI (m2 mulI (mVar 4) (mC (.int 2))) (m2 fdivI (mVar 3) (mVar 1))) (mNil)))))) (mRet (mCallD 3 g_table_of (mCons (mVar 1) (mCons (m2 addI (mFld "Table" "bits" (mVar 0)) (mC (.int 1))) (mCons (mVar 2) (mNil))))))))
noncomputable def g_shrunk : MF := finM false 5 m_shrunk
theorem d_shrunk (T : Tx K mg) : DefOk P w K mg base 8 "shrunk" ["table"] g_shrunk := def_okF false T.F_shrunk sc_shrunk (fun f cdv A outer s H E hr => ss_cons (s_if (t_w (w_or (t_cmp (c_eq hr.units) (e_fld "Table" (e_var 0) (T.f_Table_rooms)) (e_int)) (w_or1 (t_cmp (c_eq hr.units) (e_fld "Table" (e_var 0) (T.f_Table_bits)) (e_gI T.c_MOST_BITS))))) (ss_one (s_raise (x_Undefined T) (by rfl) (hr.mono (by decide)) (by rfl) tk_def (e_str))) (ss_nil))
    (ss_cons (s_set 1 sc_shrunk.nd (e_fdiv (e_fld "Table" (e_var 0) (T.f_Table_rooms)) (e_int)))
    (ss_cons (s_setLc false 2 [("room", 3), ("number", 4)] (ct_two 3 4) rfl sc_shrunk.nd (i_seq (e_call (d_places T) (hr.mono (by decide)) (by rfl) tk_def (a_cons (e_var 0) (a_nil)))) (blkOk_by (by kernel_rfl)) (fun _ _ _ _ _ => pg_two rfl (pg_name (i := 3) sc_shrunk.nd rfl (by first | exact Or.inl rfl | exact Or.inr rfl)) (pg_name (i := 4) sc_shrunk.nd rfl (by first | exact Or.inl rfl | exact Or.inr rfl))) (fun _ _ _ _ _ => ts_nil) (fun _ _ _ _ _ => e_tup (a_cons (e_mod (e_var 3) (e_var 1)) (a_cons (e_add (e_mul (e_var 4) (e_int)) (e_fdiv (e_var 3) (e_var 1))) (a_nil)))))
    (ss_one (s_ret (e_call (d_table_of T) (hr.mono (by decide)) (by rfl) tk_def (a_cons (e_var 1) (a_cons (e_add (e_fld "Table" (e_var 0) (T.f_Table_bits)) (e_int)) (a_cons (e_var 2) (a_nil))))))))))
noncomputable def m_cut : MS := mSeq (mIfS (mB (m2 (eqI) (mFld "Table" "bits" (mVar 0)) (mC (.int 0)))) (mRaise "Undefined" "what" (mC (.str "bits"))) (mPass)) (mSeq (mSet 1 (m2 subI (mFld "Table" "bits" (mVar 0)) (mC (.int 1)))) (mRet (mCallD 3 g_table_of (mCons (mFld "Table" "rooms" (mVar 0)) (mCons (mVar 1) (mCons (mLc false (mSrc (mCallD 1 g_places (mCons (mVar 0) (mNil)))) [2, 3] (gTupI 2 (gsCons (gSet 2) (gsCons (gSet 3) gsNil))) (mTB true) (mTup (mCons (mVar 2) (mCons (m2 modI (mVar 3) (m2 shlI (mC (.int 1)) (mVar 1))) (mNil))))) (mNil)))))))
noncomputable def g_cut : MF := finM false 4 m_cut
theorem d_cut (T : Tx K mg) : DefOk P w K mg base 8 "cut" ["table"] g_cut := def_okF false T.F_cut sc_cut (fun f cdv A outer s H E hr => ss_cons (s_if (t_cmp (c_eq hr.units) (e_fld "Table" (e_var 0) (T.f_Table_bits)) (e_int)) (ss_one (s_raise (x_Undefined T) (by rfl) (hr.mono (by decide)) (by rfl) tk_def (e_str))) (ss_nil))
    (ss_cons (s_set 1 sc_cut.nd (e_sub (e_fld "Table" (e_var 0) (T.f_Table_bits)) (e_int)))
    (ss_one (s_ret (e_call (d_table_of T) (hr.mono (by decide)) (by rfl) tk_def (a_cons (e_fld "Table" (e_var 0) (T.f_Table_rooms)) (a_cons (e_var 1) (a_cons (e_lc false [("room", 2), ("number", 3)] (ct_two 2 3) rfl sc_cut.nd (i_seq (e_call (d_places T) (hr.mono (by decide)) (by rfl) tk_def (a_cons (e_var 0) (a_nil)))) (blkOk_by (by kernel_rfl)) (fun _ _ _ _ _ => pg_two rfl (pg_name (i := 2) sc_cut.nd rfl (by first | exact Or.inl rfl | exact Or.inr rfl)) (pg_name (i := 3) sc_cut.nd rfl (by first | exact Or.inl rfl | exact Or.inr rfl))) (fun _ _ _ _ _ => ts_nil) (fun _ _ _ _ _ => e_tup (a_cons (e_var 2) (a_cons (e_mod (e_var 3) (e_shl (e_int) (e_var 1))) (a_nil))))) (a_nil)))))))))
noncomputable def m_joined : MS := mSeq (mIfS (mNot (mT (mCallD 2 g_fits (mCons (mVar 0) (mCons (mVar 1) (mNil)))))) (mRaise "InvalidTable" "value" (mVar 1)) (mPass)) (mRet (mCallD 3 g_table_of (mCons (mFld "Table" "rooms" (mVar 0)) (mCons (mFld "Table" "bits" (mVar 0)) (mCons (m2 addI (mCallD 1 g_places (mCons (mVar 0) (mNil))) (mCallD 1 g_places (mCons (mVar 1) (mNil)))) (mNil))))))
noncomputable def g_joined : MF := finM false 2 m_joined
theorem d_joined (T : Tx K mg) : DefOk P w K mg base 8 "joined" ["one", "other"] g_joined := def_okF false T.F_joined sc_joined (fun f cdv A outer s H E hr => ss_cons (s_if (t_not (t_val (e_call (d_fits T) (hr.mono (by decide)) (by rfl) tk_def (a_cons (e_var 0) (a_cons (e_var 1) (a_nil)))))) (ss_one (s_raise (x_InvalidTable T) (by rfl) (hr.mono (by decide)) (by rfl) tk_def (e_var 1))) (ss_nil))
    (ss_one (s_ret (e_call (d_table_of T) (hr.mono (by decide)) (by rfl) tk_def (a_cons (e_fld "Table" (e_var 0) (T.f_Table_rooms)) (a_cons (e_fld "Table" (e_var 0) (T.f_Table_bits)) (a_cons (e_add (e_call (d_places T) (hr.mono (by decide)) (by rfl) tk_def (a_cons (e_var 0) (a_nil))) (e_call (d_places T) (hr.mono (by decide)) (by rfl) tk_def (a_cons (e_var 1) (a_nil)))) (a_nil))))))))
noncomputable def m_putt : MS := mSeq (mIfS (mNot (mT (mCallD 1 g_is_print (mCons (mVar 1) (mNil))))) (mRaise "InvalidNumber" "value" (mVar 1)) (mPass)) (mSeq (mIfS (mB (m2 (eqI) (mCall (pv1 lenI) (mCons (mCallD 1 g_places (mCons (mVar 0) (mNil))) (mNil))) (mC (.int 24)))) (mRaise "Undefined" "what" (mC (.str "room"))) (mPass)) (mRet (mCallD 3 g_table_of (mCons (mFld "Table" "rooms" (mVar 0)) (mCons (mFld "Table" "bits" (mVar 0)) (mCons (mCat false (mCallD 1 g_places (mCons (mVar 0) (mNil))) (mLst false (mCons (mCallD 3 g_place (mCons (mFld "Table" "rooms" (mVar 0)) (mCons (mFld "Table" "bits" (mVar 0)) (mCons (mVar 1) (mNil))))) (mNil)))) (mNil)))))))
noncomputable def g_putt : MF := finM false 2 m_putt
theorem d_putt (T : Tx K mg) : DefOk P w K mg base 8 "put" ["table", "number"] g_putt := def_okF false T.F_putt sc_putt (fun f cdv A outer s H E hr => ss_cons (s_if (t_not (t_val (e_call (d_is_print T) (hr.mono (by decide)) (by rfl) tk_def (a_cons (e_var 1) (a_nil))))) (ss_one (s_raise (x_InvalidNumber T) (by rfl) (hr.mono (by decide)) (by rfl) tk_def (e_var 1))) (ss_nil))
    (ss_cons (s_if (t_cmp (c_eq hr.units) (e_callB call_len v_len (by rfl) T.b_len (by decide +kernel) (a_cons (e_call (d_places T) (hr.mono (by decide)) (by rfl) tk_def (a_cons (e_var 0) (a_nil))) (a_nil))) (e_gI T.c_MOST_NUMBERS)) (ss_one (s_raise (x_Undefined T) (by rfl) (hr.mono (by decide)) (by rfl) tk_def (e_str))) (ss_nil))
    (ss_one (s_ret (e_call (d_table_of T) (hr.mono (by decide)) (by rfl) tk_def (a_cons (e_fld "Table" (e_var 0) (T.f_Table_rooms)) (a_cons (e_fld "Table" (e_var 0) (T.f_Table_bits)) (a_cons (e_cat false (e_call (d_places T) (hr.mono (by decide)) (by rfl) tk_def (a_cons (e_var 0) (a_nil))) (e_lst false (a_cons (e_call (d_place T) (hr.mono (by decide)) (by rfl) tk_def (a_cons (e_fld "Table" (e_var 0) (T.f_Table_rooms)) (a_cons (e_fld "Table" (e_var 0) (T.f_Table_bits)) (a_cons (e_var 1) (a_nil))))) (a_nil)))) (a_nil)))))))))
noncomputable def m_taken : MS := mSeq (mIfS (mNot (mT (mCallD 2 g_tells (mCons (mVar 0) (mCons (mVar 1) (mNil)))))) (mRaise "Undefined" "what" (mC (.str "no"))) (mPass)) (mSeq (mSet 2 (mCallD 1 g_places (mCons (mVar 0) (mNil)))) (mSeq (mExpr (mMt remM (mVar 2) (mCons (mCallD 3 g_place (mCons (mFld "Table" "rooms" (mVar 0)) (mCons (mFld "Table" "bits" (mVar 0)) (mCons (mVar 1) (mNil))))) (mNil)))) (mRet (mCallD 3 g_table_of (mCons (mFld "Table" "rooms" (mVar 0)) (mCons (mFld "Table" "bits" (mVar 0)) (mCons (mVar 2) (mNil))))))))
noncomputable def g_taken : MF := finM false 3 m_taken
theorem d_taken (T : Tx K mg) : DefOk P w K mg base 8 "taken" ["table", "number"] g_taken := def_okF false T.F_taken sc_taken (fun f cdv A outer s H E hr => ss_cons (s_if (t_not (t_val (e_call (d_tells T) (hr.mono (by decide)) (by rfl) tk_def (a_cons (e_var 0) (a_cons (e_var 1) (a_nil)))))) (ss_one (s_raise (x_Undefined T) (by rfl) (hr.mono (by decide)) (by rfl) tk_def (e_str))) (ss_nil))
    (ss_cons (s_set 2 sc_taken.nd (e_call (d_places T) (hr.mono (by decide)) (by rfl) tk_def (a_cons (e_var 0) (a_nil))))
    (ss_cons (s_expr (e_remove (hu65 hr) (e_var 2) (a_cons (e_call (d_place T) (hr.mono (by decide)) (by rfl) tk_def (a_cons (e_fld "Table" (e_var 0) (T.f_Table_rooms)) (a_cons (e_fld "Table" (e_var 0) (T.f_Table_bits)) (a_cons (e_var 1) (a_nil))))) (a_nil))))
    (ss_one (s_ret (e_call (d_table_of T) (hr.mono (by decide)) (by rfl) tk_def (a_cons (e_fld "Table" (e_var 0) (T.f_Table_rooms)) (a_cons (e_fld "Table" (e_var 0) (T.f_Table_bits)) (a_cons (e_var 2) (a_nil))))))))))
noncomputable def m_law_table : MS := mSeq (mIfS (mB (m2 (eqI) (mCallD 2 g_law_take (mCons (mVar 0) (mCons (mC (.int 2)) (mNil)))) (mC (.int 0)))) (mRet (mCallD 3 g_print_table (mCons (mVar 1) (mCons (mVar 2) (mCons (mVar 3) (mNil)))))) (mPass)) (mRet (mMake false "Table" 4 g_Table_init (mCons (mVar 1) (mCons (mVar 2) (mCons (mCallD 3 g_law_rows_of (mCons (mVar 1) (mCons (mVar 2) (mCons (mVar 3) (mNil))))) (mNil))))))
noncomputable def g_law_table : MF := finM false 4 m_law_table
theorem d_law_table (T : Tx K mg) : DefOk P w K mg base 9 "_law_table" ["box", "rooms", "bits", "prints"] g_law_table := def_okF false T.F_law_table sc_law_table (fun f cdv A outer s H E hr => ss_cons (s_if (t_cmp (c_eq hr.units) (e_call (d_law_take T) (hr.mono (by decide)) (by rfl) tk_def (a_cons (e_var 0) (a_cons (e_int) (a_nil)))) (e_int)) (ss_one (s_ret (e_call (d_print_table T) (hr.mono (by decide)) (by rfl) tk_def (a_cons (e_var 1) (a_cons (e_var 2) (a_cons (e_var 3) (a_nil))))))) (ss_nil))
    (ss_one (s_ret (e_make false (d_Table_init T) (hr.mono (by decide)) (by rfl) tk_def (a_cons (e_var 1) (a_cons (e_var 2) (a_cons (e_call (d_law_rows_of T) (hr.mono (by decide)) (by rfl) tk_def (a_cons (e_var 1) (a_cons (e_var 2) (a_cons (e_var 3) (a_nil))))) (a_nil))))))))
noncomputable def m_law_turned : MS := mTry (subT subTab) (mSeq (mIfS (mB (m2 (eqI) (mVar 0) (mC (.int 0)))) (mRet (mCallD 1 g_grown (mCons (mVar 1) (mNil)))) (mPass)) (mRet (mIte (mB (m2 (eqI) (mVar 0) (mC (.int 1)))) (mCallD 1 g_shrunk (mCons (mVar 1) (mNil))) (mCallD 1 g_cut (mCons (mVar 1) (mNil)))))) [("Undefined", 2, fun a cls d => mRet (mXf a cls d "what" (mVar 2)))]
noncomputable def g_law_turned : MF := finM false 3 m_law_turned
theorem d_law_turned (T : Tx K mg) : DefOk P w K mg base 9 "_law_turned" ["kind", "table"] g_law_turned := def_okF false T.F_law_turned sc_law_turned (fun f cdv A outer s H E hr => ss_one (s_try rfl rfl sc_law_turned.nd tk_def T.sub (fun W pn xe tk hp => ss_cons (s_if (t_cmp (c_eq hr.units) (e_var 0) (e_int)) (ss_one (s_ret (e_call (d_grown T) (hr.mono (by decide)) (by rfl) tk (a_cons (e_var 1) (a_nil))))) (ss_nil))
    (ss_one (s_ret (e_ifx (t_cmp (c_eq hr.units) (e_var 0) (e_int)) (e_call (d_shrunk T) (hr.mono (by decide)) (by rfl) tk (a_cons (e_var 1) (a_nil))) (e_call (d_cut T) (hr.mono (by decide)) (by rfl) tk (a_cons (e_var 1) (a_nil))))))) (.cons (i := 2) rfl rfl rfl (by decide) T.m_Undefined (fun a oe cls d pn hz hf => ss_one (s_ret (e_xf hz hf (e_var 2)))) (.nil))))
noncomputable def m_law : MS := mSeq (mSet 1 (mCallD 2 g_law_box (mCons (mVar 0) (mCons (mC (.int 0)) (mNil))))) (mSeq (mPar [2, 3] (mCons (mCallD 2 g_law_pick (mCons (mVar 1) (mCons (mLst false (mCons (mC (.int 1)) (mCons (mC (.int 2)) (mCons (mC (.int 4)) (mCons (mC (.int 8)) (mNil)))))) (mNil)))) (mCons (mCallD 2 g_law_take (mCons (mVar 1) (mCons (mC (.int 6)) (mNil)))) (mNil)))) (mSeq (mSet 4 (mCallD 2 g_law_prints (mCons (mCallD 2 g_law_box (mCons (mVar 0) (mCons (mC (.int 1)) (mNil)))) (mCons (mC (.int 24)) (mNil))))) (mSeq (mSet 5 (mCallD 4 g_law_table (mCons (mVar 1) (mCons (mVar 2) (mCons (mVar 3) (mCons (mVar 4) (mNil))))))) (mSeq (mSet 6 (m2 mulI (mVar 2) (mCallD 1 g_law_power (mCons (mVar 3) (mNil))))) (mSeq (mSet 7 (mLc false (mSrc (mVar 4)) [20] (gSet 20) (mTB true) (m2 modI (mCall (pv1 intI) (mCons (mVar 20) (mNil))) (mVar 6)))) (mSeq (mSet 8 (mLc false (mRng1 (mCons (mC (.int 256)) (mNil))) [15] (gSet 15) (mTB true) (mCallD 2 g_tells (mCons (mVar 5) (mCons (mVar 15) (mNil)))))) (mSeq (mIfS (mB (m2 (neI) (mLc false (mRng1 (mCons (mC (.int 256)) (mNil))) [15] (gSet 15) (mNot (mT (mCallD 2 g_law_is_due (mCons (m2 itemI (mVar 8) (mVar 15)) (mCons (m2 (inI) (m2 modI (mCall (pv1 intI) (mCons (mVar 15) (mNil))) (mVar 6)) (mVar 7)) (mNil)))))) (mVar 15)) (mLst false (mNil)))) (mRet (mC (.bl false))) (mPass)) (mSeq (mFor (mSrc (mLst false (mCons (mTup (mCons (mC (.int 0)) (mCons (mC (.str "bits")) (mCons (mOrV (m2 (eqI) (mVar 3) (mC (.int 0))) (m2 (eqI) (mVar 2) (mC (.int 8)))) (mNil))))) (mCons (mTup (mCons (mC (.int 1)) (mCons (mC (.str "rooms")) (mCons (mOrV (m2 (eqI) (mVar 2) (mC (.int 1))) (m2 (eqI) (mVar 3) (mC (.int 5)))) (mNil))))) (mNil))))) (gTupI 3 (gsCons (gSet 9) (gsCons (gSet 10) (gsCons (gSet 11) (gsNil))))) (mSeq (mSet 12 (mCallD 2 g_law_turned (mCons (mVar 9) (mCons (mVar 5) (mNil))))) (mIfS (mT (mVar 11)) (mIfS (mB (m2 (neI) (mVar 12) (mVar 10))) (mRet (mC (.bl false))) (mPass)) (mIfS (mIte (mB (m2 (neI) (mLc false (mRng1 (mCons (mC (.int 256)) (mNil))) [15] (gSet 15) (mTB true) (mCallD 2 g_tells (mCons (mVar 12) (mCons (mVar 15) (mNil))))) (mVar 8))) (mTB true) (mB (m2 (neI) (mTup (mCons (mFld "Table" "rooms" (mVar 12)) (mCons (mFld "Table" "bits" (mVar 12)) (mNil)))) (m2 itemI (mLst false (mCons (mTup (mCons (m2 mulI (mC (.int 2)) (mVar 2)) (mCons (m2 subI (mVar 3) (mC (.int 1))) (mNil)))) (mCons (mTup (mCons (m2 fdivI (mVar 2) (mC (.int 2))) (mCons (m2 addI (mVar 3) (mC (.int 1))) (mNil)))) (mNil)))) (mVar 9))))) (mRet (mC (.bl false))) (mPass))))) (mSeq (mSet 13 (mCallD 2 g_law_prints (mCons (mCallD 2 g_law_box (mCons (mVar 0) (mCons (mC (.int 2)) (mNil)))) (mCons (m2 subI (mC (.int 24)) (mCall (pv1 lenI) (mCons (mVar 4) (mNil)))) (mNil))))) (mSeq (mSet 14 (mCallD 2 g_joined (mCons (mVar 5) (mCons (mCallD 4 g_law_table (mCons (mVar 1) (mCons (mVar 2) (mCons (mVar 3) (mCons (mVar 13) (mNil)))))) (mNil))))) (mSeq (mSet 7 (mLc false (mSrc (m2 addI (mVar 4) (mVar 13))) [20] (gSet 20) (mTB true) (m2 modI (mCall (pv1 intI) (mCons (mVar 20) (mNil))) (mVar 6)))) (mSeq (mIfS (mB (m2 (neI) (mLc false (mRng1 (mCons (mC (.int 256)) (mNil))) [15] (gSet 15) (mNot (mT (mCallD 2 g_law_is_due (mCons (mCallD 2 g_tells (mCons (mVar 14) (mCons (mVar 15) (mNil)))) (mCons (m2 (inI) (m2 modI (mCall (pv1 intI) (mCons (mVar 15) (mNil))) (mVar 6)) (mVar 7)) (mNil)))))) (mVar 15)) (mLst false (mNil)))) (mRet (mC (.bl false))) (mPass)) (mSeq (mIfS (mIte (mB (m2 (cmpI fun i j => decide (i < j)) (mCall (pv1 lenI) (mCons (mVar 4) (mNil))) (mC (.int 24)))) (mB (m2 (neI) (mVar 4) (mTup (mNil)))) (mTB false)) (mSeq (mSet 15 (mCallD 2 g_law_take (mCons (mVar 1) (mCons (mC (.int 256)) (mNil))))) (mSeq (mSet 7 (mLc false (mSrc (m2 addI (mSl false (mVar 4) (mPart (mC (.int 1))) (mNoPart)) (mTup (mCons (mVar 15) (mNil))))) [20] (gSet 20) (mTB true) (m2 modI (mCall (pv1 intI) (mCons (mVar 20) (mNil))) (mVar 6)))) (mSeq (mSet 16 (mCallD 2 g_putt (mCons (mCallD 2 g_taken (mCons (mVar 5) (mCons (m2 itemI (mVar 4) (mC (.int 0))) (mNil)))) (mCons (mVar 15) (mNil))))) (mIfS (mB (m2 (neI) (mLc false (mRng1 (mCons (mC (.int 256)) (mNil))) [20] (gSet 20) (mNot (mT (mCallD 2 g_law_is_due (mCons (mCallD 2 g_tells (mCons (mVar 16) (mCons (mVar 20) (mNil)))) (mCons (m2 (inI) (m2 modI (mCall (pv1 intI) (mCons (mVar 20) (mNil))) (mVar 6)) (mVar 7)) (mNil)))))) (mVar 20)) (mLst false (mNil)))) (mRet (mC (.bl false))) (mPass))))) (mPass)) (mSeq (mSet 17 (mCallD 2 g_law_turned (mCons (mC (.int 2)) (mCons (mVar 5) (mNil))))) (mSeq (mIfS (mB (m2 (eqI) (mVar 3) (mC (.int 0)))) (mIfS (mB (m2 (neI) (mVar 17) (mC (.str "bits")))) (mRet (mC (.bl false))) (mPass)) (mSeq (mSet 18 (mLc false (mSrc (mVar 4)) [20] (gSet 20) (mTB true) (m2 modI (mCall (pv1 intI) (mCons (mVar 20) (mNil))) (m2 fdivI (mVar 6) (mC (.int 2)))))) (mIfS (mB (m2 (neI) (mLc false (mRng1 (mCons (mC (.int 256)) (mNil))) [15] (gSet 15) (mNot (mT (mCallD 2 g_law_is_due (mCons (mCallD 2 g_tells (mCons (mVar 17) (mCons (mVar 15) (mNil)))) (mCons (m2 (inI) (m2 modI (mCall (pv1 intI) (mCons (mVar 15) (mNil))) (m2 fdivI (mVar 6) (mC (.int 2)))) (mVar 18)) (mNil)))))) (mVar 15)) (mLst false (mNil)))) (mRet (mC (.bl false))) (mPass)))) (mSeq (mFor (mSrc (mLst false (mCons (m1 negI (mC (.int 1))) (mCons (mC (.int 256)) (mCons (mC .non) (mCons (mC (.bl true)) (mCons (mC (.str "0")) (mCons (mTup (mCons (mC (.int 0)) (mNil))) (mCons (mLst false (mCons (mC (.int 0)) (mNil))) (mNil)))))))))) (gSet 19) (mIfS (mB (m2 (neI) (mCallD 2 g_law_refused (mCons (mVar 5) (mCons (mVar 19) (mNil)))) (mTup (mCons (mC (.str "number")) (mCons (mVar 19) (mNil)))))) (mRet (mC (.bl false))) (mPass))) (mRet (mC (.bl true)))))))))))))))))))
noncomputable def g_law : MF := finM false 21 m_law
theorem b_law (T : Tx K mg) : Body P w K mg base ["script", "box", "rooms", "bits", "prints", "table", "wide", "left", "told", "kind", "word", "none", "other", "more", "both", "number", "turned", "less", "half", "odd", "one"] "law" s_law 9 m_law := fun f cdv A outer s H E hr => ss_cons (s_set 1 sc_law.nd (e_call (d_law_box T) (hr.mono (by decide)) (by rfl) tk_def (a_cons (e_var 0) (a_cons (e_int) (a_nil)))))
    (ss_cons (s_par2 2 3 rfl sc_law.nd (a_cons (e_call (d_law_pick T) (hr.mono (by decide)) (by rfl) tk_def (a_cons (e_var 1) (a_cons (e_lst false (a_cons (e_int) (a_cons (e_int) (a_cons (e_int) (a_cons (e_int) (a_nil)))))) (a_nil)))) (a_cons (e_call (d_law_take T) (hr.mono (by decide)) (by rfl) tk_def (a_cons (e_var 1) (a_cons (e_int) (a_nil)))) (a_nil))))
    (ss_cons (s_set 4 sc_law.nd (e_call (d_law_prints T) (hr.mono (by decide)) (by rfl) tk_def (a_cons (e_call (d_law_box T) (hr.mono (by decide)) (by rfl) tk_def (a_cons (e_var 0) (a_cons (e_int) (a_nil)))) (a_cons (e_int) (a_nil)))))
    (ss_cons (s_set 5 sc_law.nd (e_call (d_law_table T) (hr.mono (by decide)) (by rfl) tk_def (a_cons (e_var 1) (a_cons (e_var 2) (a_cons (e_var 3) (a_cons (e_var 4) (a_nil)))))))
    (ss_cons (s_set 6 sc_law.nd (e_mul (e_var 2) (e_call (d_law_power T) (hr.mono (by decide)) (by rfl) tk_def (a_cons (e_var 3) (a_nil)))))
    (ss_cons (s_set 7 sc_law.nd (e_lc false [("one", 20)] (ct_name 20) rfl sc_law.nd (i_seq (e_var 4)) (blkOk_by (by kernel_rfl)) (fun _ _ _ _ _ => (pg_name (i := 20) sc_law.nd rfl (by first | exact Or.inl rfl | exact Or.inr rfl))) (fun _ _ _ _ _ => ts_nil) (fun _ _ _ _ _ => e_mod (e_callTy call_int1 v_int (by rfl) T.b_int (by decide +kernel) (a_cons (e_var 20) (a_nil))) (e_var 6))))
    (ss_cons (s_set 8 sc_law.nd (e_lc false [("number", 15)] (ct_name 15) rfl sc_law.nd (i_rng1 (by rfl) T.b_range (a_cons (e_int) (a_nil))) (blkOk_by (by kernel_rfl)) (fun _ _ _ _ _ => (pg_name (i := 15) sc_law.nd rfl (by first | exact Or.inl rfl | exact Or.inr rfl))) (fun _ _ _ _ _ => ts_nil) (fun _ _ _ _ _ => e_call (d_tells T) (hr.mono (by decide)) (by rfl) takes0 (a_cons (e_var 5) (a_cons (e_var 15) (a_nil))))))
    (ss_cons (s_if (t_cmp (c_ne hr.units) (e_lc false [("number", 15)] (ct_name 15) rfl sc_law.nd (i_rng1 (by rfl) T.b_range (a_cons (e_int) (a_nil))) (blkOk_by (by kernel_rfl)) (fun _ _ _ _ _ => (pg_name (i := 15) sc_law.nd rfl (by first | exact Or.inl rfl | exact Or.inr rfl))) (fun _ _ _ _ _ => ts_one (t_not (t_val (e_call (d_law_is_due T) (hr.mono (by decide)) (by rfl) takes0 (a_cons (e_ix (e_var 8) (e_var 15)) (a_cons (e_cmp (c_in (hu65 hr)) (e_mod (e_callTy call_int1 v_int (by rfl) T.b_int (by decide +kernel) (a_cons (e_var 15) (a_nil))) (e_var 6)) (e_var 7)) (a_nil))))))) (fun _ _ _ _ _ => e_var 15)) (e_lst false (a_nil))) (ss_one (s_ret (e_bl))) (ss_nil))
    (ss_cons (s_for po_def rfl (i_seq (e_lst false (a_cons (e_tup (a_cons (e_int) (a_cons (e_str) (a_cons (e_or (e_cmp (c_eq hr.units) (e_var 3) (e_int)) (e_and1 (e_cmp (c_eq hr.units) (e_var 2) (e_int)))) (a_nil))))) (a_cons (e_tup (a_cons (e_int) (a_cons (e_str) (a_cons (e_or (e_cmp (c_eq hr.units) (e_var 2) (e_int)) (e_and1 (e_cmp (c_eq hr.units) (e_var 3) (e_int)))) (a_nil))))) (a_nil))))) (g_tup rfl (gs_cons (g_name 9 sc_law.nd) (gs_cons (g_name 10 sc_law.nd) (gs_cons (g_name 11 sc_law.nd) (gs_nil))))) (ss_cons (s_set 12 sc_law.nd (e_call (d_law_turned T) (hr.mono (by decide)) (by rfl) tk_def (a_cons (e_var 9) (a_cons (e_var 5) (a_nil)))))
    (ss_one (s_if (t_val (e_var 11)) (ss_one (s_if (t_cmp (c_ne hr.units) (e_var 12) (e_var 10)) (ss_one (s_ret (e_bl))) (ss_nil))) (ss_one (s_if (t_w (w_or (t_cmp (c_ne hr.units) (e_lc false [("number", 15)] (ct_name 15) rfl sc_law.nd (i_rng1 (by rfl) T.b_range (a_cons (e_int) (a_nil))) (blkOk_by (by kernel_rfl)) (fun _ _ _ _ _ => (pg_name (i := 15) sc_law.nd rfl (by first | exact Or.inl rfl | exact Or.inr rfl))) (fun _ _ _ _ _ => ts_nil) (fun _ _ _ _ _ => e_call (d_tells T) (hr.mono (by decide)) (by rfl) takes0 (a_cons (e_var 12) (a_cons (e_var 15) (a_nil))))) (e_var 8)) (w_or1 (t_cmp (c_ne hr.units) (e_tup (a_cons (e_fld "Table" (e_var 12) (T.f_Table_rooms)) (a_cons (e_fld "Table" (e_var 12) (T.f_Table_bits)) (a_nil)))) (e_ix (e_lst false (a_cons (e_tup (a_cons (e_mul (e_int) (e_var 2)) (a_cons (e_sub (e_var 3) (e_int)) (a_nil)))) (a_cons (e_tup (a_cons (e_fdiv (e_var 2) (e_int)) (a_cons (e_add (e_var 3) (e_int)) (a_nil)))) (a_nil)))) (e_var 9)))))) (ss_one (s_ret (e_bl))) (ss_nil)))))))
    (ss_cons (s_set 13 sc_law.nd (e_call (d_law_prints T) (hr.mono (by decide)) (by rfl) tk_def (a_cons (e_call (d_law_box T) (hr.mono (by decide)) (by rfl) tk_def (a_cons (e_var 0) (a_cons (e_int) (a_nil)))) (a_cons (e_sub (e_int) (e_callB call_len v_len (by rfl) T.b_len (by decide +kernel) (a_cons (e_var 4) (a_nil)))) (a_nil)))))
    (ss_cons (s_set 14 sc_law.nd (e_call (d_joined T) (hr.mono (by decide)) (by rfl) tk_def (a_cons (e_var 5) (a_cons (e_call (d_law_table T) (hr.mono (by decide)) (by rfl) tk_def (a_cons (e_var 1) (a_cons (e_var 2) (a_cons (e_var 3) (a_cons (e_var 13) (a_nil)))))) (a_nil)))))
    (ss_cons (s_set 7 sc_law.nd (e_lc false [("one", 20)] (ct_name 20) rfl sc_law.nd (i_seq (e_add (e_var 4) (e_var 13))) (blkOk_by (by kernel_rfl)) (fun _ _ _ _ _ => (pg_name (i := 20) sc_law.nd rfl (by first | exact Or.inl rfl | exact Or.inr rfl))) (fun _ _ _ _ _ => ts_nil) (fun _ _ _ _ _ => e_mod (e_callTy call_int1 v_int (by rfl) T.b_int (by decide +kernel) (a_cons (e_var 20) (a_nil))) (e_var 6))))
    (ss_cons (s_if (t_cmp (c_ne hr.units) (e_lc false [("number", 15)] (ct_name 15) rfl sc_law.nd (i_rng1 (by rfl) T.b_range (a_cons (e_int) (a_nil))) (blkOk_by (by kernel_rfl)) (fun _ _ _ _ _ => (pg_name (i := 15) sc_law.nd rfl (by first | exact Or.inl rfl | exact Or.inr rfl))) (fun _ _ _ _ _ => ts_one (t_not (t_val (e_call (d_law_is_due T) (hr.mono (by decide)) (by rfl) takes0 (a_cons (e_call (d_tells T) (hr.mono (by decide)) (by rfl) takes0 (a_cons (e_var 14) (a_cons (e_var 15) (a_nil)))) (a_cons (e_cmp (c_in (hu65 hr)) (e_mod (e_callTy call_int1 v_int (by rfl) T.b_int (by decide +kernel) (a_cons (e_var 15) (a_nil))) (e_var 6)) (e_var 7)) (a_nil))))))) (fun _ _ _ _ _ => e_var 15)) (e_lst false (a_nil))) (ss_one (s_ret (e_bl))) (ss_nil))
    (ss_cons (s_if (t_w (w_and (t_cmp (c_lt) (e_callB call_len v_len (by rfl) T.b_len (by decide +kernel) (a_cons (e_var 4) (a_nil))) (e_int)) (w_and1 (t_cmp (c_ne hr.units) (e_var 4) (e_tup (a_nil)))))) (ss_cons (s_set 15 sc_law.nd (e_call (d_law_take T) (hr.mono (by decide)) (by rfl) tk_def (a_cons (e_var 1) (a_cons (e_int) (a_nil)))))
    (ss_cons (s_set 7 sc_law.nd (e_lc false [("one", 20)] (ct_name 20) rfl sc_law.nd (i_seq (e_add (e_sl false (e_var 4) (o_some (e_int)) (o_none)) (e_tup (a_cons (e_var 15) (a_nil))))) (blkOk_by (by kernel_rfl)) (fun _ _ _ _ _ => (pg_name (i := 20) sc_law.nd rfl (by first | exact Or.inl rfl | exact Or.inr rfl))) (fun _ _ _ _ _ => ts_nil) (fun _ _ _ _ _ => e_mod (e_callTy call_int1 v_int (by rfl) T.b_int (by decide +kernel) (a_cons (e_var 20) (a_nil))) (e_var 6))))
    (ss_cons (s_set 16 sc_law.nd (e_call (d_putt T) (hr.mono (by decide)) (by rfl) tk_def (a_cons (e_call (d_taken T) (hr.mono (by decide)) (by rfl) tk_def (a_cons (e_var 5) (a_cons (e_ix (e_var 4) (e_int)) (a_nil)))) (a_cons (e_var 15) (a_nil)))))
    (ss_one (s_if (t_cmp (c_ne hr.units) (e_lc false [("one", 20)] (ct_name 20) rfl sc_law.nd (i_rng1 (by rfl) T.b_range (a_cons (e_int) (a_nil))) (blkOk_by (by kernel_rfl)) (fun _ _ _ _ _ => (pg_name (i := 20) sc_law.nd rfl (by first | exact Or.inl rfl | exact Or.inr rfl))) (fun _ _ _ _ _ => ts_one (t_not (t_val (e_call (d_law_is_due T) (hr.mono (by decide)) (by rfl) takes0 (a_cons (e_call (d_tells T) (hr.mono (by decide)) (by rfl) takes0 (a_cons (e_var 16) (a_cons (e_var 20) (a_nil)))) (a_cons (e_cmp (c_in (hu65 hr)) (e_mod (e_callTy call_int1 v_int (by rfl) T.b_int (by decide +kernel) (a_cons (e_var 20) (a_nil))) (e_var 6)) (e_var 7)) (a_nil))))))) (fun _ _ _ _ _ => e_var 20)) (e_lst false (a_nil))) (ss_one (s_ret (e_bl))) (ss_nil)))))) (ss_nil))
    (ss_cons (s_set 17 sc_law.nd (e_call (d_law_turned T) (hr.mono (by decide)) (by rfl) tk_def (a_cons (e_int) (a_cons (e_var 5) (a_nil)))))
    (ss_cons (s_if (t_cmp (c_eq hr.units) (e_var 3) (e_int)) (ss_one (s_if (t_cmp (c_ne hr.units) (e_var 17) (e_str)) (ss_one (s_ret (e_bl))) (ss_nil))) (ss_cons (s_set 18 sc_law.nd (e_lc false [("one", 20)] (ct_name 20) rfl sc_law.nd (i_seq (e_var 4)) (blkOk_by (by kernel_rfl)) (fun _ _ _ _ _ => (pg_name (i := 20) sc_law.nd rfl (by first | exact Or.inl rfl | exact Or.inr rfl))) (fun _ _ _ _ _ => ts_nil) (fun _ _ _ _ _ => e_mod (e_callTy call_int1 v_int (by rfl) T.b_int (by decide +kernel) (a_cons (e_var 20) (a_nil))) (e_fdiv (e_var 6) (e_int)))))
    (ss_one (s_if (t_cmp (c_ne hr.units) (e_lc false [("number", 15)] (ct_name 15) rfl sc_law.nd (i_rng1 (by rfl) T.b_range (a_cons (e_int) (a_nil))) (blkOk_by (by kernel_rfl)) (fun _ _ _ _ _ => (pg_name (i := 15) sc_law.nd rfl (by first | exact Or.inl rfl | exact Or.inr rfl))) (fun _ _ _ _ _ => ts_one (t_not (t_val (e_call (d_law_is_due T) (hr.mono (by decide)) (by rfl) takes0 (a_cons (e_call (d_tells T) (hr.mono (by decide)) (by rfl) takes0 (a_cons (e_var 17) (a_cons (e_var 15) (a_nil)))) (a_cons (e_cmp (c_in (hu65 hr)) (e_mod (e_callTy call_int1 v_int (by rfl) T.b_int (by decide +kernel) (a_cons (e_var 15) (a_nil))) (e_fdiv (e_var 6) (e_int))) (e_var 18)) (a_nil))))))) (fun _ _ _ _ _ => e_var 15)) (e_lst false (a_nil))) (ss_one (s_ret (e_bl))) (ss_nil)))))
    (ss_cons (s_for po_def rfl (i_seq (e_lst false (a_cons (e_neg (e_int)) (a_cons (e_int) (a_cons (e_non) (a_cons (e_bl) (a_cons (e_str) (a_cons (e_tup (a_cons (e_int) (a_nil))) (a_cons (e_lst false (a_cons (e_int) (a_nil))) (a_nil)))))))))) (g_name 19 sc_law.nd) (ss_one (s_if (t_cmp (c_ne hr.units) (e_call (d_law_refused T) (hr.mono (by decide)) (by rfl) tk_def (a_cons (e_var 5) (a_cons (e_var 19) (a_nil)))) (e_tup (a_cons (e_str) (a_cons (e_var 19) (a_nil))))) (ss_one (s_ret (e_bl))) (ss_nil))))
    (ss_one (s_ret (e_bl)))))))))))))))))))
theorem law_end (hp : ∀ ns : List Int, ns.length ≤ 63 → ∃ st', g_law [.scr (ns.map .int)] [] = some (.val (.bl true), st')) {fa : Addr} (T : Tx K mg) (hmg : mg "law" = some (.ref fa)) :
    ∃ fd : FuncData, BindsAll fd ["script"] ∧ ∀ base : Heap, K.In base → base.Ns mainGlobals mg → FnOk P w K mg base (L2.CX P w) 10 fa fd ["script"] (spLaw K) := by
  obtain ⟨f, fd, h1, h2, h3⟩ := T.F_law.ex
  rw [hmg] at h1
  cases h1
  exact ⟨fd, h3, fun base _ _ => law_fn (N := ["script", "box", "rooms", "bits", "prints", "table", "wide", "left", "told", "kind", "word", "none", "other", "more", "both", "number", "turned", "less", "half", "odd", "one"]) h2 sc_law (b_law T) hp⟩
end
end Law
section
set_option maxHeartbeats 2000000
namespace Law
open PySem L2 MK
local macro_rules | `(tactic| walk_at "mk1") => `(tactic| first
  | with_reducible refine Rule.ok ?_ | with_reducible refine we_make ?_ | ((with_reducible refine' we_var ?hh ?_); (case hh => rfl)) | with_reducible refine eq_and rfl ?_ | ((with_reducible refine len_and ?hh ?_); (case hh => simp; done)) | with_reducible refine o_mod (by omega) ?_
  | with_reducible refine o_div (by omega) ?_ | with_reducible refine o_mul (by omega) (by omega) ?_ | ((with_reducible refine' o_ixC ?hh ?h2 ?_); (case hh => assumption); (case h2 => rfl)) | ((with_reducible refine' o_ixS ?hh ?_); (case hh => assumption))
  | ((with_reducible refine' o_ixT ?hh ?_); (case hh => assumption)) | ((with_reducible refine' o_ixL ?hh ?_); (case hh => assumption)) | ((with_reducible refine' o_ixT ?hh ?_); (case hh => rfl)) | ((with_reducible refine' o_ixL ?hh ?_); (case hh => rfl))
  | with_reducible refine o_pow (by decide) (by decide) ?_ | ((with_reducible refine' we_lenC ?hh ?_); (case hh => assumption)) | ((with_reducible refine' we_tupleC ?hh ?_); (case hh => assumption)) | (refine way_t rfl ?_) | (refine way_f rfl ?_) | ((refine' ⟨_, ?hh, ?_⟩); (case hh => rfl)))
local macro_rules | `(tactic| walk_at "mk") => `(tactic| repeat walk_at "mk1")
def BoxAt (st : Sto) (n : Nat) : Prop := ∃ a b : Int, st[n]? = some (.lst [.int a, .int b]) ∧ 0 ≤ b ∧ b < 2147483648
theorem BoxAt.lt {st : Sto} {n : Nat} (h : BoxAt st n) : n < st.length := by
  obtain ⟨a, b, e, _⟩ := h
  exact (List.getElem?_eq_some_iff.mp e).1
theorem r_take {st : Sto} {n : Nat} {many : Int} (hb : BoxAt st n) (h1 : 0 < many) (h2 : many < 1000000000) :
    we (g_law_take [.cell n, .int many]) st noX fun v st' => ∃ r : Int, v = .int r ∧ 0 ≤ r ∧ r < many ∧ Only1 n st st' ∧ BoxAt st' n := by
  obtain ⟨a, b, e, b0, b1⟩ := hb
  refine we_def (ls := [some (.cell n), some (.int many), none]) rfl ?_
  unfold m_law_take
  walk_at "mk"
  refine ⟨fun hp => ?_, fun hp => ?_⟩
  · walk_at "mk"
    refine ⟨n, _, _, _, rfl, rfl, e, rfl, rfl, ?_⟩
    walk_at "mk"
    refine close_len (by simp) ⟨_, rfl, Int.emod_nonneg _ (by omega), Int.emod_lt_of_pos _ h1, .set, a / many, b, set_get e, b0, b1⟩
  · walk_at "mk"
    refine ⟨n, _, _, _, rfl, rfl, e, rfl, rfl, ?_⟩
    have e' := set_get (c := .lst [.int a, .int ((b * 39373 + 69621) % 2147483647)]) e
    walk_at "mk"
    refine close_len (by simp) ⟨_, rfl, Int.emod_nonneg _ (by omega), Int.emod_lt_of_pos _ h1, .set, a, _, e', Int.emod_nonneg _ (by omega), by omega⟩
structure SeqIn (n : Nat) (st : Sto) (a : IV) (l : List IV) : Prop where
  len : lenI st a = some (.int l.length)
  ix : ∀ (st' : Sto) (i : Int) (v : IV), Only1 n st st' → atI l i = some v → itemI st' a (.int i) = some v
theorem SeqIn.tup {n : Nat} {st : Sto} {l : List IV} : SeqIn n st (.tup l) l := ⟨rfl, fun st' i v _ h => by simp only [itemI, asSeq, Option.bind]; exact h⟩
theorem SeqIn.lst {n : Nat} {st : Sto} {l : List IV} : SeqIn n st (.lst l) l := ⟨rfl, fun st' i v _ h => by simp only [itemI, asSeq, lstOf, Option.bind]; exact h⟩
theorem SeqIn.cell {n m : Nat} {st : Sto} {l : List IV} (e : st[m]? = some (.lst l)) (h : m ≠ n) : SeqIn n st (.cell m) l := ⟨by simp only [lenI, asSeq, lstOf, e]; rfl, fun st' i v o h' => by
  have e' : st'[m]? = some (.lst l) := by rw [o.ne m h]; exact e
  simp only [itemI, asSeq, lstOf, e', Option.bind]; exact h'⟩
theorem r_pick {st : Sto} {n : Nat} {a : IV} {l : List IV} (hb : BoxAt st n) (hs : SeqIn n st a l) (h0 : l ≠ []) (h2 : l.length < 1000000000) :
    we (g_law_pick [.cell n, a]) st noX fun v st' => v ∈ l ∧ Only1 n st st' ∧ BoxAt st' n := by
  refine we_def (ls := [some (.cell n), some a]) rfl ?_
  unfold m_law_pick
  walk_at "mk"
  have hl : 0 < l.length := List.length_pos_iff.mpr h0
  refine we_pv1 hs.len ?_
  walk_at "mk"
  refine we_nox (r_take hb (by omega) (by omega)) ?_
  rintro v st' ⟨r, rfl, r0, r1, o, hb'⟩
  have hr : r.toNat < l.length := by omega
  refine ⟨l[r.toNat], hs.ix st' r _ o (atI_get r0 (List.getElem?_eq_getElem hr)), close_len o.len ⟨List.getElem_mem hr, o, hb'⟩⟩
def isIntI : IV → Bool
  | .int _ => true
  | _ => false
structure Grow (st st' : Sto) : Prop where
  len : st.length ≤ st'.length
  old : ∀ m, m < st.length → st'[m]? = st[m]?
theorem Grow.app {st l : Sto} : Grow st (st ++ l) := ⟨by simp, fun m h => List.getElem?_append_left h⟩
theorem ixZ {ns : List Int} {i : Int} (h0 : 0 ≤ i) (h1 : i < ns.length) : ∃ z : Int, atI (ns.map IV.int) i = some (.int z) := by
  have hlt : i.toNat < ns.length := by omega
  exact ⟨ns[i.toNat], atI_get h0 (by rw [List.getElem?_map, List.getElem?_eq_getElem hlt]; rfl)⟩
theorem ixPair {a c : Int} {b : Bool} : ∃ z : Int, atI [IV.int a, IV.int c] (if b = true then 1 else 0) = some (.int z) := by
  cases b
  · exact ⟨a, rfl⟩
  · exact ⟨c, rfl⟩
theorem app_get {st : Sto} {c : CV} : (st ++ [c])[st.length]? = some c := by simp
theorem r_box {st : Sto} {ns : List Int} {k : Int} (hl : ns.length ≤ 63) (h0 : 0 ≤ k) (h1 : k < 1000) :
    we (g_law_box [.scr (ns.map .int), .int k]) st noX fun v st' => ∃ n, v = .cell n ∧ n = st.length ∧ Grow st st' ∧ st'.length = st.length + 1 ∧ BoxAt st' n := by
  refine we_def (ls := [some (.scr (ns.map .int)), some (.int k), none, none]) rfl ?_
  unfold m_law_box
  walk_at "mk"
  refine ⟨fun hp => ?_, fun hp => ?_⟩
  · have hp' : k < ns.length := by simpa using hp
    obtain ⟨z, hz⟩ := ixZ h0 hp'
    walk_at "mk"
    obtain ⟨y, hy⟩ := ixPair (a := 0) (c := if z < 0 then -z else z) (b := decide (10 ^ (18 : Int).toNat ≤ if z < 0 then -z else z))
    walk_at "mk"
    exact we_newT rfl (close_keep ⟨_, rfl, rfl, .app, by simp, y, _, app_get, by omega, by omega⟩)
  · walk_at "mk"
    refine ⟨fun hq => ?_, fun hq => ?_⟩
    · have hq' : 0 < ns.length := by simpa using hq
      obtain ⟨z, hz⟩ := ixZ (ns := ns) (i := k % (ns.length : Int)) (Int.emod_nonneg _ (by omega)) (Int.emod_lt_of_pos _ (by omega))
      rw [show ((ns.length : Int)) = (((ns.map IV.int).length : Nat) : Int) by simp] at hz
      have hq2 : (0 : Int) < ((ns.map IV.int).length : Nat) := by simpa using hq'
      walk_at "mk"
      obtain ⟨y, hy⟩ := ixPair (a := 0) (c := (if z < 0 then -z else z) % 1000000007 * 31 + 7919 * k) (b := decide (10 ^ (18 : Int).toNat ≤ (if z < 0 then -z else z) % 1000000007 * 31 + 7919 * k))
      walk_at "mk"
      exact we_newT rfl (close_keep ⟨_, rfl, rfl, .app, by simp, y, _, app_get, by omega, by omega⟩)
    · walk_at "mk"
      obtain ⟨y, hy⟩ := ixPair (a := 0) (c := 7919 * k + 101) (b := decide (10 ^ (18 : Int).toNat ≤ 7919 * k + 101))
      walk_at "mk"
      exact we_newT rfl (close_keep ⟨_, rfl, rfl, .app, by simp, y, _, app_get, by omega, by omega⟩)
end Law
end
section
set_option maxHeartbeats 2000000
namespace Law
open PySem L2 MK
local macro_rules | `(tactic| walk_at "mk1") => `(tactic| first
  | with_reducible refine Rule.ok ?_ | with_reducible refine we_make ?_ | ((with_reducible refine' we_var ?hh ?_); (case hh => rfl)) | with_reducible refine eq_and rfl ?_ | ((with_reducible refine len_and ?hh ?_); (case hh => simp; done)) | with_reducible refine o_mod (by omega) ?_
  | with_reducible refine o_div (by omega) ?_ | with_reducible refine o_mul (by omega) (by omega) ?_ | ((with_reducible refine' o_ixC ?hh ?h2 ?_); (case hh => assumption); (case h2 => rfl)) | ((with_reducible refine' o_ixS ?hh ?_); (case hh => assumption))
  | ((with_reducible refine' o_ixT ?hh ?_); (case hh => assumption)) | ((with_reducible refine' o_ixL ?hh ?_); (case hh => assumption)) | ((with_reducible refine' o_ixT ?hh ?_); (case hh => rfl)) | ((with_reducible refine' o_ixL ?hh ?_); (case hh => rfl))
  | with_reducible refine o_pow (by decide) (by decide) ?_ | ((with_reducible refine' we_lenC ?hh ?_); (case hh => assumption)) | ((with_reducible refine' we_tupleC ?hh ?_); (case hh => assumption)) | (refine way_t rfl ?_) | (refine way_f rfl ?_) | ((refine' ⟨_, ?hh, ?_⟩); (case hh => rfl)))
local macro_rules | `(tactic| walk_at "mk") => `(tactic| repeat walk_at "mk1")
mutual
def dat : IV → Bool
  | .obj .. => false
  | .cell _ => false
  | .exn .. => false
  | .tup l => datL l
  | .lst l => datL l
  | .scr l => datL l
  | _ => true
def datL : List IV → Bool
  | [] => true
  | x :: xs => dat x && datL xs
end
theorem datL_cons {x : IV} {xs : List IV} (h : datL (x :: xs) = true) : dat x = true ∧ datL xs = true := by simpa [datL, Bool.and_eq_true] using h
theorem datL_mem : ∀ {l : List IV} {v : IV}, datL l = true → v ∈ l → dat v = true
  | x :: xs, v, h, m => by
    obtain ⟨h1, h2⟩ := datL_cons h
    rcases List.mem_cons.mp m with e | e
    · subst e; exact h1
    · exact datL_mem h2 e
mutual
theorem dat_pure : ∀ v : IV, dat v = true → v.pure = true
  | .non, _ => rfl
  | .bl _, _ => rfl
  | .int _, _ => rfl
  | .str _, _ => rfl
  | .tup l, h => by simp only [dat] at h; simp only [IV.pure]; exact datL_pure l h
  | .lst l, h => by simp only [dat] at h; simp only [IV.pure]; exact datL_pure l h
  | .scr l, h => by simp only [dat] at h; simp only [IV.pure]; exact datL_pure l h
  | .obj .., h => by simp [dat] at h
  | .cell _, h => by simp [dat] at h
  | .exn .., h => by simp [dat] at h
theorem datL_pure : ∀ l : List IV, datL l = true → pureL l = true
  | [], _ => rfl
  | x :: xs, h => by
    obtain ⟨h1, h2⟩ := datL_cons h
    simp only [pureL, dat_pure x h1, datL_pure xs h2, Bool.and_self]
end
def isIn (lo hi : Int) : IV → Bool
  | .int i => decide (lo ≤ i) && decide (i ≤ hi)
  | _ => false
theorem r_isint {st : Sto} {v : IV} (h : dat v = true) : g_is_integer [v] st = some (.val (.bl (isIntI v)), st) := by
  refine run_of (we_def (ls := [some v]) rfl ?_)
  unfold m_is_integer
  cases v <;> first | (simp [dat] at h; done) | (walk_at "mk"; refine close_len ?_ ?_ <;> first | rfl | exact ⟨rfl, rfl⟩)
theorem r_within {st : Sto} {v : IV} {lo hi : Int} (h : dat v = true) : g_is_integer_within [v, .int lo, .int hi] st = some (.val (.bl (isIn lo hi v)), st) := by
  refine run_of (we_def (ls := [some v, some (.int lo), some (.int hi)]) rfl ?_)
  unfold m_is_integer_within
  walk_at "mk"
  refine we_run (r_isint h) ?_
  cases v with
  | int i =>
    walk_at "mk"
    refine ⟨fun h1 => ?_, fun h1 => ?_⟩
    · walk_at "mk"
      exact close_len rfl ⟨by (rw [isIn]; show _ = IV.bl (decide (lo ≤ i) && decide (i ≤ hi)); replace h1 : decide (lo ≤ i) = _ := h1; rw [h1]; rfl), rfl⟩
    · exact close_len rfl ⟨by (rw [isIn]; show _ = IV.bl (decide (lo ≤ i) && decide (i ≤ hi)); replace h1 : decide (lo ≤ i) = _ := h1; rw [h1]; rfl), rfl⟩
  | obj c fs => simp [dat] at h
  | cell n => simp [dat] at h
  | exn a b c d e => simp [dat] at h
  | _ =>
    walk_at "mk"
    exact close_len rfl ⟨rfl, rfl⟩
theorem boolsOf_map' (l : List IV) (p : IV → Bool) : boolsOf (l.map fun v => .bl (p v)) = some (l.map p) := by
  induction l with
  | nil => rfl
  | cons a l ih => simp [boolsOf, ih]
end Law
end
section
set_option maxHeartbeats 2000000
namespace Law
open PySem L2 MK
local macro_rules | `(tactic| walk_at "mk1") => `(tactic| first
  | with_reducible refine Rule.ok ?_ | with_reducible refine we_make ?_ | ((with_reducible refine' we_var ?hh ?_); (case hh => rfl)) | with_reducible refine eq_and rfl ?_ | ((with_reducible refine len_and ?hh ?_); (case hh => simp; done)) | with_reducible refine o_mod (by omega) ?_
  | with_reducible refine o_div (by omega) ?_ | with_reducible refine o_mul (by omega) (by omega) ?_ | ((with_reducible refine' o_ixC ?hh ?h2 ?_); (case hh => assumption); (case h2 => rfl)) | ((with_reducible refine' o_ixS ?hh ?_); (case hh => assumption))
  | ((with_reducible refine' o_ixT ?hh ?_); (case hh => assumption)) | ((with_reducible refine' o_ixL ?hh ?_); (case hh => assumption)) | ((with_reducible refine' o_ixT ?hh ?_); (case hh => rfl)) | ((with_reducible refine' o_ixL ?hh ?_); (case hh => rfl))
  | with_reducible refine o_pow (by decide) (by decide) ?_ | ((with_reducible refine' we_lenC ?hh ?_); (case hh => assumption)) | ((with_reducible refine' we_tupleC ?hh ?_); (case hh => assumption)) | (refine way_t rfl ?_) | (refine way_f rfl ?_) | ((refine' ⟨_, ?hh, ?_⟩); (case hh => rfl)))
local macro_rules | `(tactic| walk_at "mk") => `(tactic| repeat walk_at "mk1")
mutual
def veq : IV → IV → Bool
  | .non, .non => true
  | .bl a, .bl b => a == b
  | .bl a, .int b => (if a then 1 else 0) == b
  | .int a, .bl b => a == (if b then 1 else 0)
  | .int a, .int b => a == b
  | .str a, .str b => a == b
  | .tup l, .tup m => veqL l m
  | .lst l, .lst m => veqL l m
  | .lst l, .scr m => veqL l m
  | .scr l, .lst m => veqL l m
  | .scr l, .scr m => veqL l m
  | _, _ => false
def veqL : List IV → List IV → Bool
  | [], [] => true
  | x :: xs, y :: ys => veq x y && veqL xs ys
  | _, _ => false
end
mutual
def cmpb : Nat → IV → Bool
  | _, .non => true
  | _, .bl _ => true
  | _, .int _ => true
  | _, .str x => PyData.strOk x
  | n + 1, .tup l => decide (l.length ≤ 1000000) && cmpbL n l
  | n + 1, .lst l => decide (l.length ≤ 1000000) && cmpbL n l
  | n + 1, .scr l => decide (l.length ≤ 1000000) && cmpbL n l
  | _, _ => false
def cmpbL : Nat → List IV → Bool
  | _, [] => true
  | n, x :: xs => cmpb n x && cmpbL n xs
end
mutual
theorem cmpb_data : ∀ (n : Nat) (v : IV), cmpb n v = true → ∃ d, v.toD = some d ∧ d.canLay0 = true ∧ d.depth ≤ n
  | n, .non, _ => ⟨_, rfl, by simp [PyData.canLay0], by simp [PyData.depth]⟩
  | n, .bl _, _ => ⟨_, rfl, by simp [PyData.canLay0], by simp [PyData.depth]⟩
  | n, .int _, _ => ⟨_, rfl, by simp [PyData.canLay0], by simp [PyData.depth]⟩
  | n, .str x, h => ⟨_, rfl, by
    have h' : PyData.strOk x = true := by cases n <;> simpa [cmpb] using h
    simp [PyData.canLay0, h'], by simp [PyData.depth]⟩
  | 0, .tup l, h => by simp [cmpb] at h
  | 0, .lst l, h => by simp [cmpb] at h
  | 0, .scr l, h => by simp [cmpb] at h
  | n + 1, .tup l, h => by
    obtain ⟨ds, h1, h2, h3⟩ := cmpbL_data n l (by simp only [cmpb, Bool.and_eq_true] at h; exact h.2)
    exact ⟨.tuple ds, by simp [IV.toD, h1], by simpa [PyData.canLay0] using h2, by simpa [PyData.depth] using h3⟩
  | n + 1, .lst l, h => by
    obtain ⟨ds, h1, h2, h3⟩ := cmpbL_data n l (by simp only [cmpb, Bool.and_eq_true] at h; exact h.2)
    exact ⟨.list ds, by simp [IV.toD, h1], by simpa [PyData.canLay0] using h2, by simpa [PyData.depth] using h3⟩
  | n + 1, .scr l, h => by
    obtain ⟨ds, h1, h2, h3⟩ := cmpbL_data n l (by simp only [cmpb, Bool.and_eq_true] at h; exact h.2)
    exact ⟨.list ds, by simp [IV.toD, h1], by simpa [PyData.canLay0] using h2, by simpa [PyData.depth] using h3⟩
  | n, .obj .., h => by cases n <;> simp [cmpb] at h
  | n, .cell _, h => by cases n <;> simp [cmpb] at h
  | n, .exn .., h => by cases n <;> simp [cmpb] at h
theorem cmpbL_data : ∀ (n : Nat) (l : List IV), cmpbL n l = true → ∃ ds, toDL l = some ds ∧ PyData.canLayAll0 ds = true ∧ PyData.depthAll ds ≤ n
  | n, [], _ => ⟨[], rfl, by simp [PyData.canLayAll0], by simp [PyData.depthAll]⟩
  | n, x :: xs, h => by
    simp only [cmpbL, Bool.and_eq_true] at h
    obtain ⟨d, h1, h2, h3⟩ := cmpb_data n x h.1
    obtain ⟨ds, g1, g2, g3⟩ := cmpbL_data n xs h.2
    exact ⟨d :: ds, by simp [toDL, h1, g1], by simp [PyData.canLayAll0, h2, g2], by simp only [PyData.depthAll]; omega⟩
end
theorem toD_inv {b : IV} {e : PyData} (h : b.toD = some e) : (b = .non ∧ e = .none) ∨ (∃ x, b = .bl x ∧ e = .bool x) ∨ (∃ x, b = .int x ∧ e = .int x) ∨ (∃ x, b = .str x ∧ e = .str x) ∨ (∃ l ds, b = .tup l ∧ toDL l = some ds ∧ e = .tuple ds) ∨
    (∃ l ds, b = .lst l ∧ toDL l = some ds ∧ e = .list ds) ∨ (∃ l ds, b = .scr l ∧ toDL l = some ds ∧ e = .list ds) := by
  cases b with
  | non => cases h; exact .inl ⟨rfl, rfl⟩
  | bl x => cases h; exact .inr (.inl ⟨x, rfl, rfl⟩)
  | int x => cases h; exact .inr (.inr (.inl ⟨x, rfl, rfl⟩))
  | str x => cases h; exact .inr (.inr (.inr (.inl ⟨x, rfl, rfl⟩)))
  | tup l =>
    simp only [IV.toD] at h
    cases q : toDL l with
    | none => rw [q] at h; cases h
    | some ds => rw [q] at h; cases h; exact .inr (.inr (.inr (.inr (.inl ⟨l, ds, rfl, q, rfl⟩))))
  | lst l =>
    simp only [IV.toD] at h
    cases q : toDL l with
    | none => rw [q] at h; cases h
    | some ds => rw [q] at h; cases h; exact .inr (.inr (.inr (.inr (.inr (.inl ⟨l, ds, rfl, q, rfl⟩)))))
  | scr l =>
    simp only [IV.toD] at h
    cases q : toDL l with
    | none => rw [q] at h; cases h
    | some ds => rw [q] at h; cases h; exact .inr (.inr (.inr (.inr (.inr (.inr ⟨l, ds, rfl, q, rfl⟩)))))
  | _ => simp [IV.toD] at h
mutual
theorem veq_data : ∀ (d : PyData) (a b : IV) (e : PyData), a.toD = some d → b.toD = some e → PyData.eqv d e = veq a b
  | .list ds, a, b, e, h1, h2 => by
    rcases toD_inv h1 with ⟨_, h⟩ | ⟨_, _, h⟩ | ⟨_, _, h⟩ | ⟨_, _, h⟩ | ⟨_, _, _, _, h⟩ | ⟨l, ds', ha, hl, h⟩ | ⟨l, ds', ha, hl, h⟩ <;> try (cases h; done)
    all_goals
      cases h
      subst ha
      rcases toD_inv h2 with ⟨rfl, rfl⟩ | ⟨_, rfl, rfl⟩ | ⟨_, rfl, rfl⟩ | ⟨_, rfl, rfl⟩ | ⟨_, _, rfl, _, rfl⟩ | ⟨m, es, rfl, hm, rfl⟩ | ⟨m, es, rfl, hm, rfl⟩ <;> first | (simp only [PyData.eqv, veq]; done) | (simp only [PyData.eqv, veq]; exact veqL_data ds l m es hl hm)
  | .tuple ds, a, b, e, h1, h2 => by
    rcases toD_inv h1 with ⟨_, h⟩ | ⟨_, _, h⟩ | ⟨_, _, h⟩ | ⟨_, _, h⟩ | ⟨l, ds', ha, hl, h⟩ | ⟨_, _, _, _, h⟩ | ⟨_, _, _, _, h⟩ <;> try (cases h; done)
    cases h
    subst ha
    rcases toD_inv h2 with ⟨rfl, rfl⟩ | ⟨_, rfl, rfl⟩ | ⟨_, rfl, rfl⟩ | ⟨_, rfl, rfl⟩ | ⟨m, es, rfl, hm, rfl⟩ | ⟨_, _, rfl, _, rfl⟩ | ⟨_, _, rfl, _, rfl⟩ <;> first | (simp only [PyData.eqv, veq]; done) | (simp only [PyData.eqv, veq]; exact veqL_data ds l m es hl hm)
  | .none, a, b, e, h1, h2 => by
    rcases toD_inv h1 with ⟨rfl, h⟩ | ⟨_, _, h⟩ | ⟨_, _, h⟩ | ⟨_, _, h⟩ | ⟨_, _, _, _, h⟩ | ⟨_, _, _, _, h⟩ | ⟨_, _, _, _, h⟩ <;> try (cases h; done)
    rcases toD_inv h2 with ⟨rfl, rfl⟩ | ⟨_, rfl, rfl⟩ | ⟨_, rfl, rfl⟩ | ⟨_, rfl, rfl⟩ | ⟨_, _, rfl, _, rfl⟩ | ⟨_, _, rfl, _, rfl⟩ | ⟨_, _, rfl, _, rfl⟩ <;> simp only [PyData.eqv, veq]
  | .bool x, a, b, e, h1, h2 => by
    rcases toD_inv h1 with ⟨_, h⟩ | ⟨y, rfl, h⟩ | ⟨_, _, h⟩ | ⟨_, _, h⟩ | ⟨_, _, _, _, h⟩ | ⟨_, _, _, _, h⟩ | ⟨_, _, _, _, h⟩ <;> try (cases h; done)
    cases h
    rcases toD_inv h2 with ⟨rfl, rfl⟩ | ⟨_, rfl, rfl⟩ | ⟨_, rfl, rfl⟩ | ⟨_, rfl, rfl⟩ | ⟨_, _, rfl, _, rfl⟩ | ⟨_, _, rfl, _, rfl⟩ | ⟨_, _, rfl, _, rfl⟩ <;> simp only [PyData.eqv, veq]
  | .int x, a, b, e, h1, h2 => by
    rcases toD_inv h1 with ⟨_, h⟩ | ⟨_, _, h⟩ | ⟨y, rfl, h⟩ | ⟨_, _, h⟩ | ⟨_, _, _, _, h⟩ | ⟨_, _, _, _, h⟩ | ⟨_, _, _, _, h⟩ <;> try (cases h; done)
    cases h
    rcases toD_inv h2 with ⟨rfl, rfl⟩ | ⟨_, rfl, rfl⟩ | ⟨_, rfl, rfl⟩ | ⟨_, rfl, rfl⟩ | ⟨_, _, rfl, _, rfl⟩ | ⟨_, _, rfl, _, rfl⟩ | ⟨_, _, rfl, _, rfl⟩ <;> simp only [PyData.eqv, veq]
  | .str x, a, b, e, h1, h2 => by
    rcases toD_inv h1 with ⟨_, h⟩ | ⟨_, _, h⟩ | ⟨_, _, h⟩ | ⟨y, rfl, h⟩ | ⟨_, _, _, _, h⟩ | ⟨_, _, _, _, h⟩ | ⟨_, _, _, _, h⟩ <;> try (cases h; done)
    cases h
    rcases toD_inv h2 with ⟨rfl, rfl⟩ | ⟨_, rfl, rfl⟩ | ⟨_, rfl, rfl⟩ | ⟨_, rfl, rfl⟩ | ⟨_, _, rfl, _, rfl⟩ | ⟨_, _, rfl, _, rfl⟩ | ⟨_, _, rfl, _, rfl⟩ <;> simp only [PyData.eqv, veq]
  | .dict x, a, b, e, h1, h2 => by
    rcases toD_inv h1 with ⟨_, h⟩ | ⟨_, _, h⟩ | ⟨_, _, h⟩ | ⟨_, _, h⟩ | ⟨_, _, _, _, h⟩ | ⟨_, _, _, _, h⟩ | ⟨_, _, _, _, h⟩ <;> (cases h; done)
theorem veqL_data : ∀ (ds : List PyData) (l m : List IV) (es : List PyData), toDL l = some ds → toDL m = some es → PyData.eqvAll ds es = veqL l m
  | ds, [], m, es, h1, h2 => by
    cases h1
    cases m with
    | nil => cases h2; simp only [PyData.eqvAll, veqL]
    | cons y ys =>
      simp only [toDL] at h2
      split at h2
      · cases h2; simp only [PyData.eqvAll, veqL]
      · cases h2
  | [], x :: xs, m, es, h1, h2 => by
    simp only [toDL] at h1
    split at h1 <;> cases h1
  | d :: ds, x :: xs, m, es, h1, h2 => by
    simp only [toDL] at h1
    split at h1
    · rename_i d' ds' q1 q2
      cases h1
      cases m with
      | nil => cases h2; simp only [PyData.eqvAll, veqL]
      | cons y ys =>
        simp only [toDL] at h2
        split at h2
        · rename_i e' es' q3 q4
          cases h2
          simp only [PyData.eqvAll, veqL]
          rw [veq_data d x y e' q1 q3, veqL_data ds xs ys es' q2 q4]
        · cases h2
    · cases h1
end
theorem eqB_cmpb {st : Sto} {a b : IV} (ha : cmpb 64 a = true) (hb : cmpb 64 b = true) : eqB st a b = some (veq a b) := by
  obtain ⟨d, h1, h2, h3⟩ := cmpb_data 64 a ha
  obtain ⟨e, g1, g2, g3⟩ := cmpb_data 64 b hb
  have da : a.data st = some d := by cases a <;> first | exact h1 | simp [IV.toD] at h1
  have db : b.data st = some e := by cases b <;> first | exact g1 | simp [IV.toD] at g1
  unfold eqB
  rw [da, db]
  simp only [SeqAt.shaped, h2, g2, h3, g3, decide_true, Bool.and_self, and_self, if_true]
  rw [veq_data d a b e h1 g1]
theorem o_ne {st : Sto} {a b : IV} {Q : IV → Prop} (ha : cmpb 64 a = true) (hb : cmpb 64 b = true) (q : Q (.bl (!veq a b))) : ∃ v, neI st a b = some v ∧ Q v := ⟨_, by unfold neI; rw [eqB_cmpb ha hb]; rfl, q⟩
end Law
end
section
set_option maxHeartbeats 2000000
namespace Law
open PySem L2 MK
local macro_rules | `(tactic| walk_at "mk1") => `(tactic| first
  | with_reducible refine Rule.ok ?_ | with_reducible refine we_make ?_ | ((with_reducible refine' we_var ?hh ?_); (case hh => rfl)) | with_reducible refine eq_and rfl ?_ | ((with_reducible refine len_and ?hh ?_); (case hh => simp; done)) | with_reducible refine o_mod (by omega) ?_
  | with_reducible refine o_div (by omega) ?_ | with_reducible refine o_mul (by omega) (by omega) ?_ | ((with_reducible refine' o_ixC ?hh ?h2 ?_); (case hh => assumption); (case h2 => rfl)) | ((with_reducible refine' o_ixS ?hh ?_); (case hh => assumption))
  | ((with_reducible refine' o_ixT ?hh ?_); (case hh => assumption)) | ((with_reducible refine' o_ixL ?hh ?_); (case hh => assumption)) | ((with_reducible refine' o_ixT ?hh ?_); (case hh => rfl)) | ((with_reducible refine' o_ixL ?hh ?_); (case hh => rfl))
  | with_reducible refine o_pow (by decide) (by decide) ?_ | ((with_reducible refine' we_lenC ?hh ?_); (case hh => assumption)) | ((with_reducible refine' we_tupleC ?hh ?_); (case hh => assumption)) | (refine way_t rfl ?_) | (refine way_f rfl ?_) | ((refine' ⟨_, ?hh, ?_⟩); (case hh => rfl)))
local macro_rules | `(tactic| walk_at "mk") => `(tactic| repeat walk_at "mk1")
mutual
theorem cmpb_dat : ∀ (n : Nat) (v : IV), cmpb n v = true → dat v = true
  | n, .non, _ => rfl
  | n, .bl _, _ => rfl
  | n, .int _, _ => rfl
  | n, .str x, h => rfl
  | 0, .tup l, h => by simp [cmpb] at h
  | 0, .lst l, h => by simp [cmpb] at h
  | 0, .scr l, h => by simp [cmpb] at h
  | n + 1, .tup l, h => by simp only [dat]; exact cmpbL_dat n l (by simp only [cmpb, Bool.and_eq_true] at h; exact h.2)
  | n + 1, .lst l, h => by simp only [dat]; exact cmpbL_dat n l (by simp only [cmpb, Bool.and_eq_true] at h; exact h.2)
  | n + 1, .scr l, h => by simp only [dat]; exact cmpbL_dat n l (by simp only [cmpb, Bool.and_eq_true] at h; exact h.2)
  | n, .obj .., h => by cases n <;> simp [cmpb] at h
  | n, .cell _, h => by cases n <;> simp [cmpb] at h
  | n, .exn .., h => by cases n <;> simp [cmpb] at h
theorem cmpbL_dat : ∀ (n : Nat) (l : List IV), cmpbL n l = true → datL l = true
  | n, [], _ => rfl
  | n, x :: xs, h => by
    simp only [cmpbL, Bool.and_eq_true] at h
    simp only [datL, cmpb_dat n x h.1, cmpbL_dat n xs h.2, Bool.and_self]
end
mutual
theorem cmpb_up : ∀ (n m : Nat) (v : IV), n ≤ m → cmpb n v = true → cmpb m v = true
  | n, m, .non, _, _ => by cases m <;> rfl
  | n, m, .bl _, _, _ => by cases m <;> rfl
  | n, m, .int _, _, _ => by cases m <;> rfl
  | n, m, .str x, _, h => by
    have h' : PyData.strOk x = true := by cases n <;> simpa [cmpb] using h
    cases m <;> simpa [cmpb] using h'
  | 0, m, .tup l, _, h => by simp [cmpb] at h
  | 0, m, .lst l, _, h => by simp [cmpb] at h
  | 0, m, .scr l, _, h => by simp [cmpb] at h
  | n + 1, m, .tup l, hm, h => by
    obtain ⟨k, rfl⟩ : ∃ k, m = k + 1 := ⟨m - 1, by omega⟩
    simp only [cmpb, Bool.and_eq_true] at h ⊢
    exact ⟨h.1, cmpbL_up n k l (by omega) h.2⟩
  | n + 1, m, .lst l, hm, h => by
    obtain ⟨k, rfl⟩ : ∃ k, m = k + 1 := ⟨m - 1, by omega⟩
    simp only [cmpb, Bool.and_eq_true] at h ⊢
    exact ⟨h.1, cmpbL_up n k l (by omega) h.2⟩
  | n + 1, m, .scr l, hm, h => by
    obtain ⟨k, rfl⟩ : ∃ k, m = k + 1 := ⟨m - 1, by omega⟩
    simp only [cmpb, Bool.and_eq_true] at h ⊢
    exact ⟨h.1, cmpbL_up n k l (by omega) h.2⟩
  | n, m, .obj .., _, h => by cases n <;> simp [cmpb] at h
  | n, m, .cell _, _, h => by cases n <;> simp [cmpb] at h
  | n, m, .exn .., _, h => by cases n <;> simp [cmpb] at h
theorem cmpbL_up : ∀ (n m : Nat) (l : List IV), n ≤ m → cmpbL n l = true → cmpbL m l = true
  | n, m, [], _, _ => rfl
  | n, m, x :: xs, hm, h => by
    simp only [cmpbL, Bool.and_eq_true] at h ⊢
    exact ⟨cmpb_up n m x hm h.1, cmpbL_up n m xs hm h.2⟩
end
theorem cmpbL_iff {n : Nat} {l : List IV} : cmpbL n l = true ↔ ∀ v ∈ l, cmpb n v = true := by
  induction l with
  | nil => simp [cmpbL]
  | cons a l ih => simp [cmpbL, ih]
theorem cmpb_tup {n : Nat} {l : List IV} : cmpb (n + 1) (.tup l) = true ↔ l.length ≤ 1000000 ∧ ∀ v ∈ l, cmpb n v = true := by
  simp only [cmpb, Bool.and_eq_true, decide_eq_true_eq, cmpbL_iff]
theorem cmpb_lst {n : Nat} {l : List IV} : cmpb (n + 1) (.lst l) = true ↔ l.length ≤ 1000000 ∧ ∀ v ∈ l, cmpb n v = true := by
  simp only [cmpb, Bool.and_eq_true, decide_eq_true_eq, cmpbL_iff]
theorem veqL_nil {l : List IV} : veqL l [] = l.isEmpty := by cases l <;> rfl
end Law
end
section
set_option maxHeartbeats 2000000
namespace Law
open PySem L2 MK
local macro_rules | `(tactic| walk_at "mk1") => `(tactic| first
  | with_reducible refine Rule.ok ?_ | with_reducible refine we_make ?_ | ((with_reducible refine' we_var ?hh ?_); (case hh => rfl)) | with_reducible refine eq_and rfl ?_ | ((with_reducible refine len_and ?hh ?_); (case hh => simp; done)) | with_reducible refine o_mod (by omega) ?_
  | with_reducible refine o_div (by omega) ?_ | with_reducible refine o_mul (by omega) (by omega) ?_ | ((with_reducible refine' o_ixC ?hh ?h2 ?_); (case hh => assumption); (case h2 => rfl)) | ((with_reducible refine' o_ixS ?hh ?_); (case hh => assumption))
  | ((with_reducible refine' o_ixT ?hh ?_); (case hh => assumption)) | ((with_reducible refine' o_ixL ?hh ?_); (case hh => assumption)) | ((with_reducible refine' o_ixT ?hh ?_); (case hh => rfl)) | ((with_reducible refine' o_ixL ?hh ?_); (case hh => rfl))
  | with_reducible refine o_pow (by decide) (by decide) ?_ | ((with_reducible refine' we_lenC ?hh ?_); (case hh => assumption)) | ((with_reducible refine' we_tupleC ?hh ?_); (case hh => assumption)) | (refine way_t rfl ?_) | (refine way_f rfl ?_) | ((refine' ⟨_, ?hh, ?_⟩); (case hh => rfl)))
local macro_rules | `(tactic| walk_at "mk") => `(tactic| repeat walk_at "mk1")
theorem Grow.take {st : Sto} {c : CV} : (st ++ [c]).take st.length = st := by simp
end Law
end
section
set_option maxHeartbeats 2000000
namespace Law
open PySem L2 MK
local macro_rules | `(tactic| walk_at "mk1") => `(tactic| first
  | with_reducible refine Rule.ok ?_ | with_reducible refine we_make ?_ | ((with_reducible refine' we_var ?hh ?_); (case hh => rfl)) | with_reducible refine eq_and rfl ?_ | ((with_reducible refine len_and ?hh ?_); (case hh => simp; done)) | with_reducible refine o_mod (by omega) ?_
  | with_reducible refine o_div (by omega) ?_ | with_reducible refine o_mul (by omega) (by omega) ?_ | ((with_reducible refine' o_ixC ?hh ?h2 ?_); (case hh => assumption); (case h2 => rfl)) | ((with_reducible refine' o_ixS ?hh ?_); (case hh => assumption))
  | ((with_reducible refine' o_ixT ?hh ?_); (case hh => assumption)) | ((with_reducible refine' o_ixL ?hh ?_); (case hh => assumption)) | ((with_reducible refine' o_ixT ?hh ?_); (case hh => rfl)) | ((with_reducible refine' o_ixL ?hh ?_); (case hh => rfl))
  | with_reducible refine o_pow (by decide) (by decide) ?_ | ((with_reducible refine' we_lenC ?hh ?_); (case hh => assumption)) | ((with_reducible refine' we_tupleC ?hh ?_); (case hh => assumption)) | (refine way_t rfl ?_) | (refine way_f rfl ?_) | ((refine' ⟨_, ?hh, ?_⟩); (case hh => rfl)))
local macro_rules | `(tactic| walk_at "mk") => `(tactic| repeat walk_at "mk1")
theorem r_is_due {st : Sto} {a b : Bool} : g_law_is_due [.bl a, .bl b] st = some (.val (.bl (a == b)), st) := by
  refine run_of (we_def (ls := [some (.bl a), some (.bl b)]) rfl ?_)
  unfold m_law_is_due
  walk_at "mk"
  refine ⟨fun h1 => ?_, fun h1 => ?_⟩
  · walk_at "mk"
    exact close_len rfl ⟨by rw [h1], rfl⟩
  · walk_at "mk"
    exact close_len rfl ⟨by rw [h1], rfl⟩
end Law
end
section
set_option maxHeartbeats 2000000
namespace Law
open PySem L2 MK
local macro_rules | `(tactic| walk_at "mk1") => `(tactic| first
  | with_reducible refine Rule.ok ?_ | with_reducible refine we_make ?_ | ((with_reducible refine' we_var ?hh ?_); (case hh => rfl)) | with_reducible refine eq_and rfl ?_ | ((with_reducible refine len_and ?hh ?_); (case hh => simp; done)) | with_reducible refine o_mod (by omega) ?_
  | with_reducible refine o_div (by omega) ?_ | with_reducible refine o_mul (by omega) (by omega) ?_ | ((with_reducible refine' o_ixC ?hh ?h2 ?_); (case hh => assumption); (case h2 => rfl)) | ((with_reducible refine' o_ixS ?hh ?_); (case hh => assumption))
  | ((with_reducible refine' o_ixT ?hh ?_); (case hh => assumption)) | ((with_reducible refine' o_ixL ?hh ?_); (case hh => assumption)) | ((with_reducible refine' o_ixT ?hh ?_); (case hh => rfl)) | ((with_reducible refine' o_ixL ?hh ?_); (case hh => rfl))
  | with_reducible refine o_pow (by decide) (by decide) ?_ | ((with_reducible refine' we_lenC ?hh ?_); (case hh => assumption)) | ((with_reducible refine' we_tupleC ?hh ?_); (case hh => assumption)) | (refine way_t rfl ?_) | (refine way_f rfl ?_) | ((refine' ⟨_, ?hh, ?_⟩); (case hh => rfl)))
local macro_rules | `(tactic| walk_at "mk") => `(tactic| repeat walk_at "mk1")
structure OnlyN (n : Nat) (st st' : Sto) : Prop where
  len : st.length ≤ st'.length
  ne : ∀ m, m ≠ n → m < st.length → st'[m]? = st[m]?
theorem OnlyN.refl {n : Nat} {st : Sto} : OnlyN n st st := ⟨Nat.le_refl _, fun _ _ _ => rfl⟩
theorem OnlyN.trans {n : Nat} {a b c : Sto} (h : OnlyN n a b) (h' : OnlyN n b c) : OnlyN n a c := ⟨Nat.le_trans h.len h'.len, fun m z l => (h'.ne m z (Nat.lt_of_lt_of_le l h.len)).trans (h.ne m z l)⟩
theorem OnlyN.of {n : Nat} {a b : Sto} (h : Only1 n a b) : OnlyN n a b := ⟨Nat.le_of_eq h.len.symm, fun m z _ => h.ne m z⟩
theorem OnlyN.app {n : Nat} {a l : Sto} : OnlyN n a (a ++ l) := ⟨by simp, fun m _ h => List.getElem?_append_left h⟩
theorem OnlyN.set {n m : Nat} {a : Sto} {c : CV} {st : Sto} (h : OnlyN n st a) (hm : st.length ≤ m) : OnlyN n st (a.set m c) := ⟨by simpa using h.len, fun j z l => by rw [List.getElem?_set_ne (by omega)]; exact h.ne j z l⟩
theorem OnlyN.take {n : Nat} {st s : Sto} (h : OnlyN n st s) : Only1 n st (s.take st.length) := ⟨by rw [List.length_take]; have := h.len; omega, fun m z => by
  by_cases hm : m < st.length
  · rw [List.getElem?_take_of_lt hm]; exact h.ne m z hm
  · rw [List.getElem?_eq_none (by rw [List.length_take]; omega), List.getElem?_eq_none (by omega)]⟩
theorem BoxAt.take {n k : Nat} {s : Sto} (h : BoxAt s n) (hn : n < k) : BoxAt (s.take k) n := by
  obtain ⟨a, b, e, r⟩ := h
  exact ⟨a, b, by rw [List.getElem?_take_of_lt hn]; exact e, r⟩
theorem BoxAt.app {n : Nat} {s l : Sto} (h : BoxAt s n) : BoxAt (s ++ l) n := by
  obtain ⟨a, b, e, r⟩ := h
  exact ⟨a, b, by rw [List.getElem?_append_left (List.getElem?_eq_some_iff.mp e).1]; exact e, r⟩
theorem BoxAt.set {n m : Nat} {s : Sto} {c : CV} (h : BoxAt s n) (hm : m ≠ n) : BoxAt (s.set m c) n := by
  obtain ⟨a, b, e, r⟩ := h
  exact ⟨a, b, by rw [List.getElem?_set_ne hm]; exact e, r⟩
end Law
end
section
set_option maxHeartbeats 2000000
namespace Law
open PySem L2 MK
local macro_rules | `(tactic| walk_at "mk1") => `(tactic| first
  | with_reducible refine Rule.ok ?_ | with_reducible refine we_make ?_ | ((with_reducible refine' we_var ?hh ?_); (case hh => rfl)) | with_reducible refine eq_and rfl ?_ | ((with_reducible refine len_and ?hh ?_); (case hh => simp; done)) | with_reducible refine o_mod (by omega) ?_
  | with_reducible refine o_div (by omega) ?_ | with_reducible refine o_mul (by omega) (by omega) ?_ | ((with_reducible refine' o_ixC ?hh ?h2 ?_); (case hh => assumption); (case h2 => rfl)) | ((with_reducible refine' o_ixS ?hh ?_); (case hh => assumption))
  | ((with_reducible refine' o_ixT ?hh ?_); (case hh => assumption)) | ((with_reducible refine' o_ixL ?hh ?_); (case hh => assumption)) | ((with_reducible refine' o_ixT ?hh ?_); (case hh => rfl)) | ((with_reducible refine' o_ixL ?hh ?_); (case hh => rfl))
  | with_reducible refine o_pow (by decide) (by decide) ?_ | ((with_reducible refine' we_lenC ?hh ?_); (case hh => assumption)) | ((with_reducible refine' we_tupleC ?hh ?_); (case hh => assumption)) | (refine way_t rfl ?_) | (refine way_f rfl ?_) | ((refine' ⟨_, ?hh, ?_⟩); (case hh => rfl)))
local macro_rules | `(tactic| walk_at "mk") => `(tactic| repeat walk_at "mk1")
theorem OnlyN.all {n : Nat} {st s : Sto} (h : OnlyN n st s) (hn : st.length ≤ n) : s.take st.length = st := by
  apply List.ext_getElem?
  intro m
  by_cases hm : m < st.length
  · rw [List.getElem?_take_of_lt hm]; exact h.ne m (by omega) hm
  · rw [List.getElem?_eq_none (by rw [List.length_take]; omega), List.getElem?_eq_none (by omega)]
theorem o_neC {st : Sto} {n : Nat} {l : List IV} {Q : IV → Prop} (e : st[n]? = some (.lst l)) (h : ∀ v ∈ l, cmpb 60 v = true) (q : Q (.bl (!l.isEmpty))) : ∃ v, neI st (.cell n) (.lst []) = some v ∧ Q v := by
  obtain ⟨ds, h1, h2, h3⟩ := cmpbL_data 60 l (cmpbL_iff.mpr h)
  have hv := veqL_data ds l [] [] h1 rfl
  refine ⟨_, ?_, q⟩
  unfold neI eqB
  simp only [IV.data, e, h1, Option.map]
  show ((if SeqAt.shaped (.list ds) = true ∧ SeqAt.shaped (.list []) = true then some (PyData.eqv (.list ds) (.list [])) else none).map fun c => IV.bl (!c)) = _
  have hs : SeqAt.shaped (.list ds) = true := by
    unfold SeqAt.shaped
    simp only [PyData.canLay0, h2, Bool.true_and, decide_eq_true_eq]
    show PyData.depth (.list ds) ≤ 64
    simp only [PyData.depth]
    omega
  rw [if_pos ⟨hs, by decide⟩]
  simp only [PyData.eqv, Option.map, hv, veqL_nil]
def MarkOk (k : Int) (v : IV) : Prop := ∃ ns : List Int, v = .tup (ns.map .int) ∧ ns ≠ [] ∧ ns.Pairwise (· < ·) ∧ ns.length ≤ 8 ∧ ∀ i ∈ ns, 0 ≤ i ∧ i < k
theorem MarkOk.cmpb {k : Int} {v : IV} (h : MarkOk k v) : cmpb 2 v = true := by
  obtain ⟨ns, rfl, h1, h2, h4, h3⟩ := h
  refine cmpb_tup.mpr ⟨by rw [List.length_map]; omega, fun v hv => ?_⟩
  obtain ⟨i, hi, rfl⟩ := List.mem_map.mp hv
  rfl
end Law
end
section
set_option maxHeartbeats 2000000
namespace Law
open PySem L2 MK
local macro_rules | `(tactic| walk_at "mk1") => `(tactic| first
  | with_reducible refine Rule.ok ?_ | with_reducible refine we_make ?_ | ((with_reducible refine' we_var ?hh ?_); (case hh => rfl)) | with_reducible refine eq_and rfl ?_ | ((with_reducible refine len_and ?hh ?_); (case hh => simp; done)) | with_reducible refine o_mod (by omega) ?_
  | with_reducible refine o_div (by omega) ?_ | with_reducible refine o_mul (by omega) (by omega) ?_ | ((with_reducible refine' o_ixC ?hh ?h2 ?_); (case hh => assumption); (case h2 => rfl)) | ((with_reducible refine' o_ixS ?hh ?_); (case hh => assumption))
  | ((with_reducible refine' o_ixT ?hh ?_); (case hh => assumption)) | ((with_reducible refine' o_ixL ?hh ?_); (case hh => assumption)) | ((with_reducible refine' o_ixT ?hh ?_); (case hh => rfl)) | ((with_reducible refine' o_ixL ?hh ?_); (case hh => rfl))
  | with_reducible refine o_pow (by decide) (by decide) ?_ | ((with_reducible refine' we_lenC ?hh ?_); (case hh => assumption)) | ((with_reducible refine' we_tupleC ?hh ?_); (case hh => assumption)) | (refine way_t rfl ?_) | (refine way_f rfl ?_) | ((refine' ⟨_, ?hh, ?_⟩); (case hh => rfl)))
local macro_rules | `(tactic| walk_at "mk") => `(tactic| repeat walk_at "mk1")
structure OkL (d m : Nat) (l : List IV) : Prop where
  len : l.length ≤ m
  all : ∀ v ∈ l, cmpb d v = true
theorem OkL.app {d m k : Nat} {a b : List IV} (ha : OkL d m a) (hb : OkL d k b) : OkL d (m + k) (a ++ b) := ⟨by rw [List.length_append]; have := ha.len; have := hb.len; omega, fun v hv => (List.mem_append.mp hv).elim (ha.all v) (hb.all v)⟩
theorem OkL.cut {d m : Nat} {l : List IV} (h : OkL d m l) (lo hi : Option Int) : OkL d m (cutI l lo hi) := by
  unfold cutI
  refine ⟨Nat.le_trans ?_ h.len, fun v hv => h.all v (List.mem_of_mem_drop (List.mem_of_mem_take hv))⟩
  rw [List.length_take, List.length_drop]; omega
theorem OkL.tup {d m : Nat} {l : List IV} (h : OkL d m l) (hm : m ≤ 1000000) : cmpb (d + 1) (.tup l) = true := cmpb_tup.mpr ⟨Nat.le_trans h.len hm, h.all⟩
theorem OkL.lst {d m : Nat} {l : List IV} (h : OkL d m l) (hm : m ≤ 1000000) : cmpb (d + 1) (.lst l) = true := cmpb_lst.mpr ⟨Nat.le_trans h.len hm, h.all⟩
def Tree : Nat → IV → Prop
  | 0, v => ∃ i : Int, v = .int i ∧ 0 ≤ i ∧ i ≤ 100
  | d + 1, v => ∃ l, v = .tup l ∧ l.length ≤ 100 ∧ ∀ x ∈ l, Tree d x
theorem Tree.cmpb : ∀ {d : Nat} {v : IV}, Tree d v → cmpb d v = true
  | 0, v, h => by obtain ⟨i, rfl, _⟩ := h; rfl
  | d + 1, v, h => by
    obtain ⟨l, rfl, h1, h2⟩ := h
    exact cmpb_tup.mpr ⟨by omega, fun x hx => (h2 x hx).cmpb⟩
end Law
end
section
set_option maxHeartbeats 2000000
namespace Law
open PySem L2 MK
local macro_rules | `(tactic| walk_at "mk1") => `(tactic| first
  | with_reducible refine Rule.ok ?_ | ((with_reducible refine' we_var ?hh ?_); (case hh => rfl)) | with_reducible refine eq_and rfl ?_ | ((with_reducible refine len_and ?hh ?_); (case hh => simp; done)) | with_reducible refine o_mod (by omega) ?_ | with_reducible refine o_div (by omega) ?_
  | with_reducible refine o_mul (by omega) (by omega) ?_ | ((with_reducible refine' o_ixC ?hh ?h2 ?_); (case hh => assumption); (case h2 => rfl)) | ((with_reducible refine' o_ixS ?hh ?_); (case hh => assumption)) | ((with_reducible refine' o_ixT ?hh ?_); (case hh => assumption))
  | ((with_reducible refine' o_ixL ?hh ?_); (case hh => assumption)) | ((with_reducible refine' o_ixT ?hh ?_); (case hh => rfl)) | ((with_reducible refine' o_ixL ?hh ?_); (case hh => rfl)) | with_reducible refine o_pow (by decide) (by decide) ?_
  | ((with_reducible refine' we_lenC ?hh ?_); (case hh => assumption)) | ((with_reducible refine' we_tupleC ?hh ?_); (case hh => assumption)) | (refine way_t rfl ?_) | (refine way_f rfl ?_) | ((refine' Exists.intro _ (And.intro ?hh ?_)); (case hh => rfl)))
local macro_rules | `(tactic| walk_at "mk") => `(tactic| repeat walk_at "mk1")
mutual
theorem veq_refl : ∀ v : IV, dat v = true → veq v v = true
  | .non, _ => rfl
  | .bl _, _ => by simp [veq]
  | .int _, _ => by simp [veq]
  | .str _, _ => by simp [veq]
  | .tup l, h => by simp only [veq]; exact veqL_refl l (by simpa [dat] using h)
  | .lst l, h => by simp only [veq]; exact veqL_refl l (by simpa [dat] using h)
  | .scr l, h => by simp only [veq]; exact veqL_refl l (by simpa [dat] using h)
  | .obj .., h => by simp [dat] at h
  | .cell _, h => by simp [dat] at h
  | .exn .., h => by simp [dat] at h
theorem veqL_refl : ∀ l : List IV, datL l = true → veqL l l = true
  | [], _ => rfl
  | x :: xs, h => by
    obtain ⟨h1, h2⟩ := datL_cons h
    simp only [veqL, veq_refl x h1, veqL_refl xs h2, Bool.and_self]
end
def CaseOk (v : IV) : Prop := ∃ c m, v = .tup [c, m] ∧ cmpb 30 c = true ∧ cmpb 30 m = true
theorem CaseOk.cmpb {v : IV} (h : CaseOk v) : cmpb 31 v = true := by
  obtain ⟨c, m, rfl, h1, h2⟩ := h
  exact cmpb_tup.mpr ⟨by simp, fun x hx => by simp at hx; rcases hx with rfl | rfl <;> assumption⟩
end Law
end
section
set_option maxHeartbeats 2000000
namespace Law
open PySem L2 MK
local macro_rules | `(tactic| walk_at "mk1") => `(tactic| first
  | with_reducible refine Rule.ok ?_ | ((with_reducible refine' we_var ?hh ?_); (case hh => rfl)) | with_reducible refine eq_and rfl ?_ | ((with_reducible refine len_and ?hh ?_); (case hh => simp; done)) | with_reducible refine o_mod (by omega) ?_ | with_reducible refine o_div (by omega) ?_
  | with_reducible refine o_mul (by omega) (by omega) ?_ | ((with_reducible refine' o_ixC ?hh ?h2 ?_); (case hh => assumption); (case h2 => rfl)) | ((with_reducible refine' o_ixS ?hh ?_); (case hh => assumption)) | ((with_reducible refine' o_ixT ?hh ?_); (case hh => assumption))
  | ((with_reducible refine' o_ixL ?hh ?_); (case hh => assumption)) | ((with_reducible refine' o_ixT ?hh ?_); (case hh => rfl)) | ((with_reducible refine' o_ixL ?hh ?_); (case hh => rfl)) | with_reducible refine o_pow (by decide) (by decide) ?_
  | ((with_reducible refine' we_lenC ?hh ?_); (case hh => assumption)) | ((with_reducible refine' we_tupleC ?hh ?_); (case hh => assumption)) | (refine way_t rfl ?_) | (refine way_f rfl ?_) | ((refine' Exists.intro _ (And.intro ?hh ?_)); (case hh => rfl)))
local macro_rules | `(tactic| walk_at "mk") => `(tactic| repeat walk_at "mk1")
structure Mk (k : Int) (ms : List (List Int)) : Prop where
  k1 : 1 ≤ k
  k8 : k ≤ 8
  l1 : 1 ≤ ms.length
  l7 : ms.length ≤ 7
  ne : ∀ m ∈ ms, m ≠ []
  pw : ∀ m ∈ ms, m.Pairwise (· < ·)
  bd : ∀ m ∈ ms, ∀ c ∈ m, 0 ≤ c ∧ c < k
  le : ∀ m ∈ ms, m.length ≤ 8
def Asc (n : Int) (ks : List Int) : Prop := ks.Pairwise (· < ·) ∧ ∀ i ∈ ks, 0 ≤ i ∧ i < n
theorem Asc.len {n : Int} {ks : List Int} (h : Asc n ks) (h0 : 0 ≤ n) : (ks.length : Int) ≤ n := by
  have p : ks.Sublist (rngL n) ∨ True := .inr trivial
  have nd : ks.Nodup := h.1.imp fun q => Int.ne_of_lt q
  have := nd.length_le_of_subset (l₂ := rngL n) fun i hi => rngL_mem.mpr (h.2 i hi)
  rw [rngL_len] at this
  omega
theorem Asc.filter {n : Int} (p : Int → Bool) : Asc n ((rngL n).filter p) := ⟨rngL_pw.filter p, fun i hi => rngL_mem.mp (List.mem_filter.mp hi).1⟩
theorem Asc.nil {n : Int} : Asc n [] := ⟨List.Pairwise.nil, fun i h => by cases h⟩
theorem dat_tupI (ns : List Int) : dat (tupI ns) = true := by
  show datL (ns.map .int) = true
  induction ns with
  | nil => rfl
  | cons a l ih => simp only [List.map_cons, datL, dat, ih, Bool.and_self]
end Law
end
section
set_option maxHeartbeats 2000000
namespace Law
open PySem L2 MK
local macro_rules | `(tactic| walk_at "mk1") => `(tactic| first
  | with_reducible refine Rule.ok ?_ | ((with_reducible refine' we_var ?hh ?_); (case hh => rfl)) | with_reducible refine eq_and rfl ?_ | ((with_reducible refine len_and ?hh ?_); (case hh => simp; done)) | with_reducible refine o_mod (by omega) ?_ | with_reducible refine o_div (by omega) ?_
  | with_reducible refine o_mul (by omega) (by omega) ?_ | ((with_reducible refine' o_ixC ?hh ?h2 ?_); (case hh => assumption); (case h2 => rfl)) | ((with_reducible refine' o_ixS ?hh ?_); (case hh => assumption)) | ((with_reducible refine' o_ixT ?hh ?_); (case hh => assumption))
  | ((with_reducible refine' o_ixL ?hh ?_); (case hh => assumption)) | ((with_reducible refine' o_ixT ?hh ?_); (case hh => rfl)) | ((with_reducible refine' o_ixL ?hh ?_); (case hh => rfl)) | with_reducible refine o_pow (by decide) (by decide) ?_
  | ((with_reducible refine' we_lenC ?hh ?_); (case hh => assumption)) | ((with_reducible refine' we_tupleC ?hh ?_); (case hh => assumption)) | (refine way_t rfl ?_) | (refine way_f rfl ?_) | ((refine' Exists.intro _ (And.intro ?hh ?_)); (case hh => rfl)))
local macro_rules | `(tactic| walk_at "mk") => `(tactic| repeat walk_at "mk1")
theorem cmpb_tupI {n : Nat} {ns : List Int} (h : ns.length ≤ 1000000) : cmpb (n + 1) (tupI ns) = true := by
  refine cmpb_tup.mpr ⟨by rw [List.length_map]; exact h, fun v hv => ?_⟩
  obtain ⟨i, _, rfl⟩ := List.mem_map.mp hv
  cases n <;> rfl
theorem o_neS {st : Sto} {a : IV} {Q : IV → Prop} (h : cmpb 64 a = true) (q : Q (.bl false)) : ∃ v, neI st a a = some v ∧ Q v := by
  refine o_ne h h ?_
  rw [veq_refl _ (cmpb_dat _ _ h)]
  exact q
theorem Mk.cmpb {k : Int} {ms : List (List Int)} (h : Mk k ms) {n : Nat} : cmpb (n + 2) (.tup (ms.map tupI)) = true := by
  refine cmpb_tup.mpr ⟨by rw [List.length_map]; have := h.l7; omega, fun v hv => ?_⟩
  obtain ⟨m, hm, rfl⟩ := List.mem_map.mp hv
  exact cmpb_tupI (by have := h.le m hm; omega)
end Law
end
section
set_option maxHeartbeats 2000000
namespace Law
open PySem L2 MK
local macro_rules | `(tactic| walk_at "mk1") => `(tactic| first
  | with_reducible refine Rule.ok ?_ | ((with_reducible refine' we_var ?hh ?_); (case hh => rfl)) | with_reducible refine eq_and rfl ?_ | ((with_reducible refine len_and ?hh ?_); (case hh => simp; done)) | with_reducible refine o_mod (by omega) ?_ | with_reducible refine o_div (by omega) ?_
  | with_reducible refine o_mul (by omega) (by omega) ?_ | ((with_reducible refine' o_ixC ?hh ?h2 ?_); (case hh => assumption); (case h2 => rfl)) | ((with_reducible refine' o_ixS ?hh ?_); (case hh => assumption)) | ((with_reducible refine' o_ixT ?hh ?_); (case hh => assumption))
  | ((with_reducible refine' o_ixL ?hh ?_); (case hh => assumption)) | ((with_reducible refine' o_ixT ?hh ?_); (case hh => rfl)) | ((with_reducible refine' o_ixL ?hh ?_); (case hh => rfl)) | with_reducible refine o_pow (by decide) (by decide) ?_
  | ((with_reducible refine' we_lenC ?hh ?_); (case hh => assumption)) | ((with_reducible refine' we_tupleC ?hh ?_); (case hh => assumption)) | (refine way_t rfl ?_) | (refine way_f rfl ?_) | ((refine' Exists.intro _ (And.intro ?hh ?_)); (case hh => rfl)))
local macro_rules | `(tactic| walk_at "mk") => `(tactic| repeat walk_at "mk1")
variable {k : Int} {ms : List (List Int)} {ks bs : List Int}
theorem filter_none {p : Int → Bool} {l : List Int} (h : ∀ i ∈ l, p i = false) : l.filter p = [] := List.filter_eq_nil_iff.mpr fun i hi => by rw [h i hi]; exact Bool.false_ne_true
end Law
end
section
set_option maxHeartbeats 2000000
namespace Law
open PySem L2 MK
local macro_rules | `(tactic| walk_at "mk1") => `(tactic| first
  | with_reducible refine Rule.ok ?_ | ((with_reducible refine' we_var ?hh ?_); (case hh => rfl)) | with_reducible refine eq_and rfl ?_ | ((with_reducible refine len_and ?hh ?_); (case hh => simp; done)) | with_reducible refine o_mod (by omega) ?_ | with_reducible refine o_div (by omega) ?_
  | with_reducible refine o_mul (by omega) (by omega) ?_ | ((with_reducible refine' o_ixC ?hh ?h2 ?_); (case hh => assumption); (case h2 => rfl)) | ((with_reducible refine' o_ixS ?hh ?_); (case hh => assumption)) | ((with_reducible refine' o_ixT ?hh ?_); (case hh => assumption))
  | ((with_reducible refine' o_ixL ?hh ?_); (case hh => assumption)) | ((with_reducible refine' o_ixT ?hh ?_); (case hh => rfl)) | ((with_reducible refine' o_ixL ?hh ?_); (case hh => rfl)) | with_reducible refine o_pow (by decide) (by decide) ?_
  | ((with_reducible refine' we_lenC ?hh ?_); (case hh => assumption)) | ((with_reducible refine' we_tupleC ?hh ?_); (case hh => assumption)) | (refine way_t rfl ?_) | (refine way_f rfl ?_) | ((refine' Exists.intro _ (And.intro ?hh ?_)); (case hh => rfl)))
local macro_rules | `(tactic| walk_at "mk") => `(tactic| repeat walk_at "mk1")
theorem cmpb_pair {x : Str} {v : IV} (hx : cmpb 63 (.str x) = true) (h : cmpb 63 v = true) : cmpb 64 (.tup [.str x, v]) = true := by
  refine cmpb_tup.mpr ⟨by simp, fun w hw => ?_⟩
  simp only [List.mem_cons, List.not_mem_nil, or_false] at hw
  rcases hw with rfl | rfl
  · exact hx
  · exact h
end Law
end
section
set_option maxHeartbeats 2000000
namespace Law
open PySem L2 MK
local macro_rules | `(tactic| walk_at "mk1") => `(tactic| first
  | with_reducible refine Rule.ok ?_ | ((with_reducible refine' we_var ?hh ?_); (case hh => rfl)) | with_reducible refine eq_and rfl ?_ | ((with_reducible refine len_and ?hh ?_); (case hh => simp; done)) | with_reducible refine o_mod (by omega) ?_ | with_reducible refine o_div (by omega) ?_
  | with_reducible refine o_mul (by omega) (by omega) ?_ | ((with_reducible refine' o_ixC ?hh ?h2 ?_); (case hh => assumption); (case h2 => rfl)) | ((with_reducible refine' o_ixS ?hh ?_); (case hh => assumption)) | ((with_reducible refine' o_ixT ?hh ?_); (case hh => assumption))
  | ((with_reducible refine' o_ixL ?hh ?_); (case hh => assumption)) | ((with_reducible refine' o_ixT ?hh ?_); (case hh => rfl)) | ((with_reducible refine' o_ixL ?hh ?_); (case hh => rfl)) | with_reducible refine o_pow (by decide) (by decide) ?_
  | ((with_reducible refine' we_lenC ?hh ?_); (case hh => assumption)) | ((with_reducible refine' we_tupleC ?hh ?_); (case hh => assumption)) | (refine way_t rfl ?_) | (refine way_f rfl ?_) | ((refine' Exists.intro _ (And.intro ?hh ?_)); (case hh => rfl)))
local macro_rules | `(tactic| walk_at "mk") => `(tactic| repeat walk_at "mk1")
theorem join2 {b : Bool} {t f : MS} {ls : MK.Loc} {st : Sto} {E : EX} {C : Fl → Sto → Prop} (J : MK.Loc → Sto → Prop) (ht : b = true → we (t ls) st E fun fl st1 => ∃ ls', fl = .nx ls' ∧ J ls' st1) (hf : b = false → we (f ls) st E fun fl st1 => ∃ ls', fl = .nx ls' ∧ J ls' st1)
    (k : ∀ ls' st1, J ls' st1 → C (.nx ls') st1) : (b = true → we (t ls) st E C) ∧ (b = false → we (f ls) st E C) :=
  ⟨fun e => we_mono (ht e) fun fl st1 h => by obtain ⟨ls', rfl, j⟩ := h; exact k ls' st1 j, fun e => we_mono (hf e) fun fl st1 h => by obtain ⟨ls', rfl, j⟩ := h; exact k ls' st1 j⟩
variable {st : Sto} {k h : Int} {ms : List (List Int)} {ks os bs m : List Int} {i : Int} {v w : IV}
end Law
end
section
set_option maxHeartbeats 2000000
namespace Law
open PySem L2 MK
local macro_rules | `(tactic| walk_at "mk1") => `(tactic| first
  | with_reducible refine Rule.ok ?_ | ((with_reducible refine' we_var ?hh ?_); (case hh => rfl)) | with_reducible refine eq_and rfl ?_ | ((with_reducible refine len_and ?hh ?_); (case hh => simp; done)) | with_reducible refine o_mod (by omega) ?_ | with_reducible refine o_div (by omega) ?_
  | with_reducible refine o_mul (by omega) (by omega) ?_ | ((with_reducible refine' o_ixC ?hh ?h2 ?_); (case hh => assumption); (case h2 => rfl)) | ((with_reducible refine' o_ixS ?hh ?_); (case hh => assumption)) | ((with_reducible refine' o_ixT ?hh ?_); (case hh => assumption))
  | ((with_reducible refine' o_ixL ?hh ?_); (case hh => assumption)) | ((with_reducible refine' o_ixT ?hh ?_); (case hh => rfl)) | ((with_reducible refine' o_ixL ?hh ?_); (case hh => rfl)) | with_reducible refine o_pow (by decide) (by decide) ?_
  | ((with_reducible refine' we_lenC ?hh ?_); (case hh => assumption)) | ((with_reducible refine' we_tupleC ?hh ?_); (case hh => assumption)) | (refine way_t rfl ?_) | (refine way_f rfl ?_) | ((refine' Exists.intro _ (And.intro ?hh ?_)); (case hh => rfl)))
local macro_rules | `(tactic| walk_at "mk") => `(tactic| repeat walk_at "mk1")
theorem we_sumL {ns : List Int} {st : Sto} {E : EX} {Q : IV → Sto → Prop} (q : Q (.int ns.sum) st) : we (pv1 sumI [.lst (ns.map .int)]) st E Q :=
  we_pv1 (by unfold sumI intsAt; show Option.map _ ((some (ns.map IV.int)).bind intsOf) = _; rw [Option.bind_some, intsOf_map]; rfl) q
end Law
end
section
set_option maxHeartbeats 2000000
namespace Law
open PySem L2 MK
local macro_rules | `(tactic| walk_at "mk1") => `(tactic| first
  | with_reducible refine Rule.ok ?_ | ((with_reducible refine' we_var ?hh ?_); (case hh => rfl)) | with_reducible refine eq_and rfl ?_ | ((with_reducible refine len_and ?hh ?_); (case hh => simp; done)) | with_reducible refine o_mod (by omega) ?_ | with_reducible refine o_div (by omega) ?_
  | with_reducible refine o_mul (by omega) (by omega) ?_ | ((with_reducible refine' o_ixC ?hh ?h2 ?_); (case hh => assumption); (case h2 => rfl)) | ((with_reducible refine' o_ixS ?hh ?_); (case hh => assumption)) | ((with_reducible refine' o_ixT ?hh ?_); (case hh => assumption))
  | ((with_reducible refine' o_ixL ?hh ?_); (case hh => assumption)) | ((with_reducible refine' o_ixT ?hh ?_); (case hh => rfl)) | ((with_reducible refine' o_ixL ?hh ?_); (case hh => rfl)) | with_reducible refine o_pow (by decide) (by decide) ?_
  | ((with_reducible refine' we_lenC ?hh ?_); (case hh => assumption)) | ((with_reducible refine' we_tupleC ?hh ?_); (case hh => assumption)) | (refine way_t rfl ?_) | (refine way_f rfl ?_) | ((refine' Exists.intro _ (And.intro ?hh ?_)); (case hh => rfl)))
local macro_rules | `(tactic| walk_at "mk") => `(tactic| repeat walk_at "mk1")
theorem rangeI_len {lo : Int} {n : Nat} : (rangeI lo n).length = n := by unfold rangeI; simp
theorem drop_rangeI {lo : Int} {n k : Nat} {v : IV} {q : List IV} (h : v :: q = (rangeI lo n).drop k) : v = .int (lo + k) ∧ q = (rangeI lo n).drop (k + 1) ∧ k < n := by
  have hk : k < (rangeI lo n).length := by
    rcases Nat.lt_or_ge k (rangeI lo n).length with z | z
    · exact z
    · rw [List.drop_of_length_le z] at h; cases h
  rw [List.drop_eq_getElem_cons hk] at h
  obtain ⟨h1, h2⟩ := List.cons.inj h
  refine ⟨?_, h2, by rw [rangeI_len] at hk; exact hk⟩
  have := rangeI_get (lo := lo) (n := n) (i := k) (v := v) (by rw [List.getElem?_eq_getElem hk, h1])
  exact this.2
theorem drop_end {lo : Int} {n k : Nat} (h : [] = (rangeI lo n).drop k) : n ≤ k := by
  have z := congrArg List.length h
  rw [List.length_drop, rangeI_len] at z
  simp at z
  omega
end Law
end
section
set_option maxHeartbeats 2000000
namespace Law
open PySem L2 MK
local macro_rules | `(tactic| walk_at "mk1") => `(tactic| first
  | with_reducible refine Rule.ok ?_ | ((with_reducible refine' we_var ?hh ?_); (case hh => rfl)) | with_reducible refine eq_and rfl ?_ | ((with_reducible refine len_and ?hh ?_); (case hh => simp; done)) | with_reducible refine o_mod (by omega) ?_ | with_reducible refine o_div (by omega) ?_
  | with_reducible refine o_mul (by omega) (by omega) ?_ | ((with_reducible refine' o_ixC ?hh ?h2 ?_); (case hh => assumption); (case h2 => rfl)) | ((with_reducible refine' o_ixS ?hh ?_); (case hh => assumption)) | ((with_reducible refine' o_ixT ?hh ?_); (case hh => assumption))
  | ((with_reducible refine' o_ixL ?hh ?_); (case hh => assumption)) | ((with_reducible refine' o_ixT ?hh ?_); (case hh => rfl)) | ((with_reducible refine' o_ixL ?hh ?_); (case hh => rfl)) | with_reducible refine o_pow (by decide) (by decide) ?_
  | ((with_reducible refine' we_lenC ?hh ?_); (case hh => assumption)) | ((with_reducible refine' we_tupleC ?hh ?_); (case hh => assumption)) | (refine way_t rfl ?_) | (refine way_f rfl ?_) | ((refine' Exists.intro _ (And.intro ?hh ?_)); (case hh => rfl)))
local macro_rules | `(tactic| walk_at "mk") => `(tactic| repeat walk_at "mk1")
def isRoom (v : IV) : Bool := match v with
  | .int i => decide (i = 1 ∨ i = 2 ∨ i = 4 ∨ i = 8)
  | _ => false
theorem o_shl {st : Sto} {b : Int} {Q : IV → Prop} (h : 0 ≤ b ∧ b ≤ 1000) (q : Q (.int (2 ^ b.toNat))) : ∃ v, shlI st (.int 1) (.int b) = some v ∧ Q v :=
  ⟨_, by simp only [shlI]; rw [if_pos ⟨h.1, by omega, by decide⟩], by rw [Int.one_mul]; exact q⟩
theorem r_check {st : Sto} {r b : IV} (hr : dat r = true) (hb : dat b = true) :
    we (g_check_numbers [r, b]) st (fun cl f v st' => st' = st ∧ f = "value" ∧ cl = "InvalidNumber" ∧ ((isRoom r = false ∧ v = r) ∨ (isRoom r = true ∧ isIn 0 5 b = false ∧ v = b))) fun v st' => v = .non ∧ st' = st ∧ isRoom r = true ∧ isIn 0 5 b = true := by
  refine we_def (ls := [some r, some b]) rfl ?_
  unfold m_check_numbers
  walk_at "mk"
  refine we_run (r_isint hr) ?_
  cases r with
  | int i =>
    walk_at "mk"
    have e : (decide (i = 1 ∨ i = 2 ∨ i = 4 ∨ i = 8)) = ([IV.int 1, IV.int 2, IV.int 4, IV.int 8].any fun z => eqF z (.int i)) := by
      rw [Bool.eq_iff_iff]
      simp [eqF]
      omega
    rw [← e]
    refine ⟨fun h => ?_, fun h => ?_⟩
    · have h : isRoom (.int i) = false := by
        have h : (!isRoom (.int i)) = true := h
        simpa using h
      walk_at "mk"
      exact .inl ⟨rfl, rfl, rfl, rfl, .inl ⟨h, rfl⟩⟩
    · have h : isRoom (.int i) = true := by
        have h : (!isRoom (.int i)) = false := h
        simpa using h
      walk_at "mk"
      refine we_run (r_within hb) ?_
      walk_at "mk"
      refine ⟨fun h2 => ?_, fun h2 => ?_⟩
      · walk_at "mk"
        exact .inl ⟨rfl, rfl, rfl, rfl, .inr ⟨h, by simpa using h2, rfl⟩⟩
      · walk_at "mk"
        exact close_len rfl ⟨rfl, rfl, h, by simpa using h2⟩
  | _ =>
    walk_at "mk"
    exact .inl ⟨rfl, rfl, rfl, rfl, .inl ⟨rfl, rfl⟩⟩
def rowW (least hi : Int) : List IV → Bool
  | [] => true
  | .int i :: r => isIn least hi (.int i) && rowW i hi r
  | _ :: _ => false
def isRow (b : Int) : IV → Bool
  | .tup l => rowW 0 (2 ^ b.toNat - 1) l
  | _ => false
theorem r_is_row {st : Sto} {v : IV} {b : Int} (h0 : 0 ≤ b ∧ b ≤ 5) (h : dat v = true) : g_is_row [.int b, v] st = some (.val (.bl (isRow b v)), st) := by
  refine run_of (we_def (ls := [some (.int b), some v, none, none]) rfl ?_)
  unfold m_is_row
  cases v with
  | tup l =>
    walk_at "mk"
    refine forL_inv (fun r ls s => s = st ∧ datL r = true ∧ ∃ least x, ls = [some (.int b), some (.tup l), some (.int least), x] ∧ rowW least (2 ^ b.toNat - 1) r = rowW 0 (2 ^ b.toNat - 1) l) ?_ ?_ _ _ _ ⟨rfl, h, 0, none, rfl, rfl⟩
    · rintro ls s ⟨rfl, _, least, x, rfl, e⟩
      refine ⟨trivial, ?_⟩
      walk_at "mk"
      exact close_len rfl ⟨by rw [isRow, ← e]; rfl, rfl⟩
    · rintro v r ls s ⟨rfl, hd, least, x, rfl, e⟩
      obtain ⟨d1, d2⟩ := datL_cons hd
      refine ⟨trivial, _, rfl, ?_⟩
      walk_at "mk"
      refine o_shl (by omega) ?_
      walk_at "mk"
      refine we_run (r_within d1) ?_
      walk_at "mk"
      refine ⟨fun h1 => ?_, fun h1 => ?_⟩
      · walk_at "mk"
        refine close_len rfl ⟨?_, rfl⟩
        rw [isRow, ← e]
        cases v <;> first | rfl | (simp only [rowW]; simp at h1; rw [h1]; rfl)
      · walk_at "mk"
        cases v with
        | int i =>
          refine ⟨rfl, d2, i, some (.int i), rfl, ?_⟩
          rw [← e]
          simp at h1
          simp only [rowW, h1, Bool.true_and]
        | _ => simp [isIn] at h1
  | obj c fs => simp [dat] at h
  | cell n => simp [dat] at h
  | exn a b c d e => simp [dat] at h
  | _ =>
    walk_at "mk"
    exact close_len rfl ⟨rfl, rfl⟩
def tlen : IV → Nat
  | .tup l => l.length
  | _ => 0
def tsum (l : List IV) : Nat := (l.map tlen).sum
def areRows (r b : Int) : IV → Bool
  | .tup l => decide ((l.length : Int) = r) && l.all (isRow b) && decide (tsum l ≤ 24)
  | _ => false
theorem isRow_tup {b : Int} {v : IV} (h : isRow b v = true) : ∃ l, v = .tup l := by
  cases v <;> first | exact ⟨_, rfl⟩ | (simp [isRow] at h)
theorem ints_cast (l : List IV) : (l.map fun v => IV.int ((tlen v : Nat) : Int)) = (l.map fun v => ((tlen v : Nat) : Int)).map .int := by rw [List.map_map]; rfl
theorem sum_cast (l : List IV) : (l.map fun v => ((tlen v : Nat) : Int)).sum = ((tsum l : Nat) : Int) := by
  unfold tsum
  induction l with
  | nil => rfl
  | cons a l ih => simp only [List.map_cons, List.sum_cons, ih]; omega
theorem r_are_rows {st : Sto} {v : IV} {r b : Int} (h0 : 0 ≤ b ∧ b ≤ 5) (hr : 1 ≤ r ∧ r ≤ 8) (h : dat v = true) : g_are_rows [.int r, .int b, v] st = some (.val (.bl (areRows r b v)), st) := by
  refine run_of (we_def (ls := [some (.int r), some (.int b), some v, none]) rfl ?_)
  unfold m_are_rows
  cases v with
  | tup l =>
    walk_at "mk"
    have ev : (PyData.eqv (.int (l.length : Int)) (.int r)) = decide ((l.length : Int) = r) := by rw [Bool.eq_iff_iff]; simp [PyData.eqv]
    rw [ev]
    refine ⟨fun h1 => ?_, fun h1 => ?_⟩
    · have h1 : ¬ ((l.length : Int) = r) := by simpa using h1
      walk_at "mk"
      exact close_len rfl ⟨by simp [areRows, h1], rfl⟩
    · have h1 : ((l.length : Int) = r) := by simpa using h1
      walk_at "mk"
      refine compL_pure (fun _ => true) (fun v => .bl (isRow b v)) trivial (fun v hv => ⟨_, rfl, rfl, fun _ => ?_⟩) ?_
      · refine run_of ?_
        walk_at "mk"
        exact we_run (r_is_row h0 (datL_mem h hv)) ⟨rfl, rfl⟩
      rw [show List.filter (fun _ => true) ((l, (none : Option Nat)).1) = l by simp]
      refine len_and (by rw [List.length_map]; omega) ?_
      walk_at "mk"
      refine we_allL (boolsOf_map' l (isRow b)) ?_
      walk_at "mk"
      rw [show (l.map (isRow b)).all id = l.all (isRow b) by rw [List.all_map]; rfl]
      refine ⟨fun h2 => ?_, fun h2 => ?_⟩
      · walk_at "mk"
        have h2 : l.all (isRow b) = false := by simpa using h2
        exact close_len rfl ⟨by simp only [areRows, h2, Bool.and_false, Bool.false_and], rfl⟩
      · have h2 : l.all (isRow b) = true := by simpa using h2
        walk_at "mk"
        refine compL_pure (fun _ => true) (fun v => .int ((tlen v : Nat) : Int)) trivial (fun v hv => ⟨_, rfl, rfl, fun _ => ?_⟩) ?_
        · obtain ⟨m, rfl⟩ := isRow_tup (List.all_eq_true.mp h2 v hv)
          refine run_of ?_
          walk_at "mk"
          exact ⟨rfl, rfl⟩
        rw [show List.filter (fun _ => true) ((l, (none : Option Nat)).1) = l by simp]
        refine len_and (by rw [List.length_map]; omega) ?_
        walk_at "mk"
        rw [ints_cast]
        refine we_sumL ?_
        walk_at "mk"
        rw [sum_cast]
        refine close_len rfl ⟨?_, rfl⟩
        simp only [areRows, h1, h2, decide_true, Bool.true_and]
        congr 1
        rw [Bool.eq_iff_iff]
        simp
        omega
  | obj c fs => simp [dat] at h
  | cell n => simp [dat] at h
  | exn a b c d e => simp [dat] at h
  | _ =>
    walk_at "mk"
    exact close_len rfl ⟨rfl, rfl⟩
def tbObj (r b : Int) (l : List IV) : List (Str × IV) := [("rooms", .int r), ("bits", .int b), ("rows", .tup l)]
theorem tbObj_eq (r b : Int) (l : List IV) : putI "rows" (.tup l) (putI "bits" (.int b) (putI "rooms" (.int r) [])) = tbObj r b l := by
  show (if ("rooms" : Str) = "rows" then _ else _) = _
  rw [if_neg (by decide +kernel)]
  show _ :: (if ("bits" : Str) = "rows" then _ else _) = _
  rw [if_neg (by decide +kernel)]
  rfl
end Law
end
section
set_option maxHeartbeats 2000000
namespace Law
open PySem L2 MK
local macro_rules | `(tactic| walk_at "mk1") => `(tactic| first
  | with_reducible refine Rule.ok ?_ | ((with_reducible refine' we_var ?hh ?_); (case hh => rfl)) | with_reducible refine eq_and rfl ?_ | ((with_reducible refine len_and ?hh ?_); (case hh => simp; done)) | with_reducible refine o_mod (by omega) ?_ | with_reducible refine o_div (by omega) ?_
  | with_reducible refine o_mul (by omega) (by omega) ?_ | ((with_reducible refine' o_ixC ?hh ?h2 ?_); (case hh => assumption); (case h2 => rfl)) | ((with_reducible refine' o_ixS ?hh ?_); (case hh => assumption)) | ((with_reducible refine' o_ixT ?hh ?_); (case hh => assumption))
  | ((with_reducible refine' o_ixL ?hh ?_); (case hh => assumption)) | ((with_reducible refine' o_ixT ?hh ?_); (case hh => rfl)) | ((with_reducible refine' o_ixL ?hh ?_); (case hh => rfl)) | with_reducible refine o_pow (by decide) (by decide) ?_
  | ((with_reducible refine' we_lenC ?hh ?_); (case hh => assumption)) | ((with_reducible refine' we_tupleC ?hh ?_); (case hh => assumption)) | (refine way_t rfl ?_) | (refine way_f rfl ?_) | ((refine' Exists.intro _ (And.intro ?hh ?_)); (case hh => rfl)))
local macro_rules | `(tactic| walk_at "mk") => `(tactic| repeat walk_at "mk1")
theorem isRoom_int {v : IV} (h : isRoom v = true) : ∃ i : Int, v = .int i ∧ (i = 1 ∨ i = 2 ∨ i = 4 ∨ i = 8) := by
  cases v <;> first | (simp [isRoom] at h; done) | skip
  rename_i i
  exact ⟨i, rfl, by simpa [isRoom] using h⟩
theorem isIn_int {lo hi : Int} {v : IV} (h : isIn lo hi v = true) : ∃ i : Int, v = .int i ∧ lo ≤ i ∧ i ≤ hi := by
  cases v <;> first | (simp [isIn] at h; done) | skip
  rename_i i
  exact ⟨i, rfl, by simpa [isIn] using h⟩
theorem r_tinit {st : Sto} {r b m : IV} {n : Nat} (hr : dat r = true) (hb : dat b = true) (hm : dat m = true) (e : st[n]? = some (.ins "Table" [])) :
    we (g_Table_init [.cell n, r, b, m]) st (fun cl f v st' => st' = st ∧ f = "value" ∧ ((isRoom r = false ∧ cl = "InvalidNumber" ∧ v = r) ∨ (isRoom r = true ∧ isIn 0 5 b = false ∧ cl = "InvalidNumber" ∧ v = b) ∨ (isRoom r = true ∧ isIn 0 5 b = true ∧ (∃ i j, r = .int i ∧ b = .int j ∧ areRows i j m = false) ∧ cl = "InvalidRows" ∧ v = m)))
      fun v st' => v = .non ∧ ∃ i j l, r = .int i ∧ b = .int j ∧ m = .tup l ∧ isRoom r = true ∧ isIn 0 5 b = true ∧ areRows i j m = true ∧ st' = st.set n (.ins "Table" (tbObj i j l)) := by
  refine we_def (ls := [some (.cell n), some r, some b, some m, none]) rfl ?_
  unfold m_Table_init
  walk_at "mk"
  refine we_monoX (r_check hr hb) ?_ ?_
  · rintro cl f v st' ⟨rfl, rfl, rfl, h | h⟩
    · exact .inl ⟨rfl, rfl, rfl, .inl ⟨h.1, rfl, h.2⟩⟩
    · exact .inl ⟨rfl, rfl, rfl, .inr (.inl ⟨h.1, h.2.1, rfl, h.2.2⟩)⟩
  · rintro v st' ⟨rfl, rfl, h1, h2⟩
    obtain ⟨i, rfl, hi⟩ := isRoom_int h1
    obtain ⟨j, rfl, j0, j5⟩ := isIn_int h2
    walk_at "mk"
    refine we_run (r_are_rows ⟨j0, j5⟩ (by omega) hm) ?_
    walk_at "mk"
    refine ⟨fun h3 => ?_, fun h3 => ?_⟩
    · walk_at "mk"
      simp at h3
      exact .inl ⟨rfl, rfl, rfl, .inr (.inr ⟨h1, h2, ⟨i, j, rfl, rfl, h3⟩, rfl, rfl⟩)⟩
    · simp at h3
      cases m with
      | tup l =>
        walk_at "mk"
        refine ⟨n, [], rfl, e, rfl, by decide, ?_⟩
        have e1 := set_get (c := .ins "Table" (putI "rooms" (.int i) [])) e
        walk_at "mk"
        refine ⟨n, _, rfl, e1, rfl, by simp [putI], ?_⟩
        rw [List.set_set]
        have e2 := set_get (c := .ins "Table" (putI "bits" (.int j) (putI "rooms" (.int i) []))) e
        walk_at "mk"
        have h4 := h3
        simp only [areRows, Bool.and_eq_true, List.all_eq_true, decide_eq_true_eq] at h4
        obtain ⟨⟨hl, ha⟩, hs⟩ := h4
        refine compL_pure (fun _ => true) id trivial (fun v hv => ⟨_, rfl, rfl, fun _ => ?_⟩) ?_
        · obtain ⟨q, rfl⟩ := isRow_tup (ha v hv)
          rfl
        · rw [show List.map id (List.filter (fun _ => true) ((l, (none : Option Nat)).1)) = l by simp]
          refine len_and (by omega) ?_
          walk_at "mk"
          refine ⟨n, _, rfl, e2, dat_pure _ hm, by simp only [putI]; split <;> simp, ?_⟩
          rw [List.set_set, tbObj_eq]
          exact close_len (by simp) ⟨rfl, i, j, l, rfl, rfl, rfl, h1, h2, h3, rfl⟩
      | _ => simp [areRows] at h3
structure Tb (r b : Int) (rows : List (List Int)) : Prop where
  room : r = 1 ∨ r = 2 ∨ r = 4 ∨ r = 8
  bits : 0 ≤ b ∧ b ≤ 5
  len : (rows.length : Int) = r
  pw : ∀ row ∈ rows, row.Pairwise (· ≤ ·)
  bd : ∀ row ∈ rows, ∀ x ∈ row, 0 ≤ x ∧ x < 2 ^ b.toNat
  sum : (rows.map List.length).sum ≤ 24
abbrev objT (r b : Int) (rows : List (List Int)) : IV := .obj "Table" (tbObj r b (rows.map tupI))
theorem rowW_of {hi : Int} : ∀ {ns : List Int} {least : Int}, ns.Pairwise (· ≤ ·) → (∀ x ∈ ns, least ≤ x ∧ x ≤ hi) → rowW least hi (ns.map .int) = true
  | [], _, _, _ => rfl
  | a :: l, least, pw, h => by
    obtain ⟨p1, p2⟩ := List.pairwise_cons.mp pw
    have ha := h a List.mem_cons_self
    rw [List.map_cons, rowW, rowW_of p2 fun x hx => ⟨p1 x hx, (h x (List.mem_cons_of_mem _ hx)).2⟩]
    simp [isIn, ha]
theorem rowW_inv {hi : Int} : ∀ {l : List IV} {least : Int}, rowW least hi l = true → ∃ ns : List Int, l = ns.map .int ∧ ns.Pairwise (· ≤ ·) ∧ ∀ x ∈ ns, least ≤ x ∧ x ≤ hi
  | [], _, _ => ⟨[], rfl, .nil, fun _ h => by cases h⟩
  | v :: l, least, h => by
    cases v with
    | int i =>
      simp only [rowW, Bool.and_eq_true] at h
      obtain ⟨ns, rfl, p, q⟩ := rowW_inv h.2
      have hi := h.1
      simp [isIn] at hi
      refine ⟨i :: ns, rfl, List.pairwise_cons.mpr ⟨fun x hx => (q x hx).1, p⟩, fun x hx => ?_⟩
      rcases List.mem_cons.mp hx with rfl | hx
      · exact hi
      · have := q x hx; omega
    | _ => simp [rowW] at h
theorem tsum_tup (rows : List (List Int)) : tsum (rows.map tupI) = (rows.map List.length).sum := by
  unfold tsum
  rw [List.map_map]
  congr 1
  refine List.map_congr_left fun m _ => ?_
  simp [tlen]
theorem Tb.are {r b : Int} {rows : List (List Int)} (h : Tb r b rows) : areRows r b (.tup (rows.map tupI)) = true := by
  simp only [areRows, Bool.and_eq_true, List.all_eq_true, decide_eq_true_eq, List.length_map, tsum_tup]
  refine ⟨⟨h.len, fun v hv => ?_⟩, h.sum⟩
  obtain ⟨m, hm, rfl⟩ := List.mem_map.mp hv
  exact rowW_of (h.pw m hm) fun x hx => by have := h.bd m hm x hx; omega
theorem Tb.of {r b : Int} {v : IV} (hr : r = 1 ∨ r = 2 ∨ r = 4 ∨ r = 8) (hb : 0 ≤ b ∧ b ≤ 5) (h : areRows r b v = true) : ∃ rows : List (List Int), v = .tup (rows.map tupI) ∧ Tb r b rows := by
  cases v with
  | tup l =>
    simp only [areRows, Bool.and_eq_true, List.all_eq_true, decide_eq_true_eq] at h
    obtain ⟨⟨hl, ha⟩, hs⟩ := h
    have : ∃ rows : List (List Int), l = rows.map tupI ∧ ∀ m ∈ rows, m.Pairwise (· ≤ ·) ∧ ∀ x ∈ m, 0 ≤ x ∧ x < 2 ^ b.toNat := by
      clear hl hs
      induction l with
      | nil => exact ⟨[], rfl, fun m hm => by cases hm⟩
      | cons a l ih =>
        obtain ⟨rows, rfl, h2⟩ := ih fun v hv => ha v (List.mem_cons_of_mem _ hv)
        have h1 := ha a List.mem_cons_self
        obtain ⟨q, rfl⟩ := isRow_tup h1
        obtain ⟨ns, rfl, p1, p2⟩ := rowW_inv h1
        refine ⟨ns :: rows, rfl, fun m hm => ?_⟩
        rcases List.mem_cons.mp hm with rfl | hm
        · exact ⟨p1, fun x hx => by have := p2 x hx; omega⟩
        · exact h2 m hm
    obtain ⟨rows, rfl, h2⟩ := this
    rw [List.length_map] at hl
    rw [tsum_tup] at hs
    exact ⟨rows, rfl, ⟨hr, hb, hl, fun m hm => (h2 m hm).1, fun m hm => (h2 m hm).2, hs⟩⟩
  | _ => simp [areRows] at h
theorem Tb.row_len {r b : Int} {rows : List (List Int)} (h : Tb r b rows) : ∀ row ∈ rows, row.length ≤ 24 := fun row hr => by
  have : ∀ l : List Nat, ∀ x ∈ l, x ≤ l.sum := fun l => by
    induction l with
    | nil => intro x hx; cases hx
    | cons a l ih =>
      intro x hx
      simp only [List.sum_cons]
      rcases List.mem_cons.mp hx with rfl | hx
      · omega
      · have := ih x hx; omega
  exact Nat.le_trans (this _ _ (List.mem_map.mpr ⟨row, hr, rfl⟩)) h.sum
theorem Tb.r8 {r b : Int} {rows : List (List Int)} (h : Tb r b rows) : 1 ≤ r ∧ r ≤ 8 := by have := h.room; omega
theorem isRoom_of {r : Int} (h : r = 1 ∨ r = 2 ∨ r = 4 ∨ r = 8) : isRoom (.int r) = true := by simpa [isRoom] using h
theorem we_mkT {st : Sto} {ls : MK.Loc} {E : EX} {Q : IV → Sto → Prop} {ga : MA} {r b : Int} {rows : List (List Int)} (ht : Tb r b rows) (h : we (ga ls) st E fun l st1 => l = [.int r, .int b, .tup (rows.map tupI)] ∧ Q (objT r b rows) st1) : we (mMake false "Table" 4 g_Table_init ga ls) st E Q := by
  refine we_make (we_mono h fun l st1 h => ?_)
  obtain ⟨rfl, q⟩ := h
  have hd : dat (.tup (rows.map tupI)) = true := by
    refine cmpb_dat 2 _ (cmpb_tup.mpr ⟨?_, fun v hv => ?_⟩)
    · rw [List.length_map]; have := ht.len; have := ht.r8; omega
    · obtain ⟨m, hm, rfl⟩ := List.mem_map.mp hv
      exact cmpb_tupI (n := 0) (by have := ht.row_len m hm; omega)
  refine ⟨rfl, we_monoX (r_tinit rfl rfl hd app_get) ?_ ?_⟩
  · rintro c' f v st' ⟨_, _, h | h | h⟩
    · rw [isRoom_of ht.room] at h; exact absurd h.1 (by decide)
    · have e : isIn 0 5 (.int b) = true := by simpa [isIn] using ht.bits
      rw [e] at h; exact absurd h.2.1 (by decide)
    · obtain ⟨_, _, ⟨i, j, e1, e2, e3⟩, _⟩ := h
      cases e1; cases e2
      rw [ht.are] at e3; cases e3
  · rintro v st' ⟨rfl, i, j, l, e1, e2, e3, _, _, _, rfl⟩
    cases e1; cases e2; cases e3
    refine ⟨rfl, by simp, "Table", tbObj r b (rows.map tupI), set_get app_get, ?_⟩
    have e : ((st1 ++ [CV.ins "Table" []]).set st1.length (.ins "Table" (tbObj r b (rows.map tupI)))).take st1.length = st1 := by simp
    rw [e]; exact q
end Law
end
section
set_option maxHeartbeats 2000000
namespace Law
open PySem L2 MK
local macro_rules | `(tactic| walk_at "mk1") => `(tactic| first
  | with_reducible refine Rule.ok ?_ | ((with_reducible refine' we_var ?hh ?_); (case hh => rfl)) | with_reducible refine eq_and rfl ?_ | ((with_reducible refine len_and ?hh ?_); (case hh => simp; done)) | with_reducible refine o_mod (by omega) ?_ | with_reducible refine o_div (by omega) ?_
  | with_reducible refine o_mul (by omega) (by omega) ?_ | ((with_reducible refine' o_ixC ?hh ?h2 ?_); (case hh => assumption); (case h2 => rfl)) | ((with_reducible refine' o_ixS ?hh ?_); (case hh => assumption)) | ((with_reducible refine' o_ixT ?hh ?_); (case hh => assumption))
  | ((with_reducible refine' o_ixL ?hh ?_); (case hh => assumption)) | ((with_reducible refine' o_ixT ?hh ?_); (case hh => rfl)) | ((with_reducible refine' o_ixL ?hh ?_); (case hh => rfl)) | with_reducible refine o_pow (by decide) (by decide) ?_
  | ((with_reducible refine' we_lenC ?hh ?_); (case hh => assumption)) | ((with_reducible refine' we_tupleC ?hh ?_); (case hh => assumption)) | (refine way_t rfl ?_) | (refine way_f rfl ?_) | ((refine' Exists.intro _ (And.intro ?hh ?_)); (case hh => rfl)))
local macro_rules | `(tactic| walk_at "mk") => `(tactic| repeat walk_at "mk1")
def prV (p : Int × Int) : IV := .tup [.int p.1, .int p.2]
def placeF (r b n : Int) : Int × Int := (n % r, n / r % 2 ^ b.toNat)
theorem pow_pos5 {b : Int} (h : 0 ≤ b ∧ b ≤ 5) : 0 < (2 : Int) ^ b.toNat ∧ (2 : Int) ^ b.toNat ≤ 32 := by
  have : b.toNat ≤ 5 := by omega
  have : b.toNat = 0 ∨ b.toNat = 1 ∨ b.toNat = 2 ∨ b.toNat = 3 ∨ b.toNat = 4 ∨ b.toNat = 5 := by omega
  rcases this with e | e | e | e | e | e <;> rw [e] <;> decide
theorem r_place {st : Sto} {r b n : Int} (hr : 1 ≤ r ∧ r ≤ 8) (hb : 0 ≤ b ∧ b ≤ 5) : g_place [.int r, .int b, .int n] st = some (.val (prV (placeF r b n)), st) := by
  refine run_of (we_def (ls := [some (.int r), some (.int b), some (.int n)]) rfl ?_)
  unfold m_place
  have hp := pow_pos5 hb
  walk_at "mk"
  refine o_shl (by omega) ?_
  refine o_mod hp.1 ?_
  walk_at "mk"
  exact close_len rfl ⟨rfl, rfl⟩
theorem r_print {st : Sto} {v : IV} (h : dat v = true) : g_is_print [v] st = some (.val (.bl (isIn 0 255 v)), st) := by
  refine run_of (we_def (ls := [some v]) rfl ?_)
  unfold m_is_print
  walk_at "mk"
  refine we_run (r_within h) ?_
  exact close_len rfl ⟨rfl, rfl⟩
def rowsP (r : Int) (ps : List (Int × Int)) : List (List Int) := (rngL r).map fun a => sortI ((ps.filter fun p => decide (p.1 = a)).map (·.2))
theorem rowsP_len {r : Int} (h : 1 ≤ r) (ps : List (Int × Int)) : ((rowsP r ps).length : Int) = r := by unfold rowsP; rw [List.length_map, rngL_len]; omega
theorem sum_le_filter {r : Int} (ps : List (Int × Int)) : ((rowsP r ps).map List.length).sum ≤ ps.length := by
  unfold rowsP
  rw [List.map_map]
  have : ∀ l : List Int, l.Nodup → ((l.map fun a => (ps.filter fun p => decide (p.1 = a)).length).sum) ≤ (ps.filter fun p => decide (p.1 ∈ l)).length := fun l => by
    induction l with
    | nil => intro _; simp
    | cons a l ih =>
      intro nd
      obtain ⟨n1, n2⟩ := List.nodup_cons.mp nd
      have h := ih n2
      simp only [List.map_cons, List.sum_cons]
      have e : (ps.filter fun p => decide (p.1 = a)).length + (ps.filter fun p => decide (p.1 ∈ l)).length = (ps.filter fun p => decide (p.1 ∈ a :: l)).length := by
        clear h ih
        induction ps with
        | nil => rfl
        | cons p ps ihp =>
          simp only [List.filter_cons, List.mem_cons]
          by_cases h1 : p.1 = a
          · have h2 : p.1 ∉ l := fun z => n1 (h1 ▸ z)
            simp only [h1, decide_true, if_true, true_or, List.length_cons]
            simp only [h1] at h2
            simp only [h2, decide_false, Bool.false_eq_true, if_false]
            simp only [List.mem_cons] at ihp
            omega
          · by_cases h2 : p.1 ∈ l
            · simp only [h1, h2, decide_true, decide_false, Bool.false_eq_true, if_false, if_true, or_true, List.length_cons]
              simp only [List.mem_cons] at ihp
              omega
            · simp only [h1, h2, decide_false, Bool.false_eq_true, if_false, or_self]
              simp only [List.mem_cons] at ihp
              exact ihp
      omega
  have h := this (rngL r) (rngL_pw.imp fun q => Int.ne_of_lt q)
  refine Nat.le_trans (Nat.le_of_eq ?_) (Nat.le_trans h (List.length_filter_le _ _))
  congr 1
  refine List.map_congr_left fun a _ => ?_
  simp only [Function.comp_def]
  rw [(sortI_perm _).length_eq, List.length_map]
theorem tb_rows {r b : Int} {ps : List (Int × Int)} (hr : r = 1 ∨ r = 2 ∨ r = 4 ∨ r = 8) (hb : 0 ≤ b ∧ b ≤ 5) (hl : ps.length ≤ 24) (h : ∀ p ∈ ps, 0 ≤ p.2 ∧ p.2 < 2 ^ b.toNat) : Tb r b (rowsP r ps) where
  room := hr
  bits := hb
  len := rowsP_len (by omega) ps
  pw := fun row h => by
    obtain ⟨a, _, rfl⟩ := List.mem_map.mp h
    exact sortI_le _
  bd := fun row hrow x hx => by
    obtain ⟨a, _, rfl⟩ := List.mem_map.mp hrow
    obtain ⟨p, hp, rfl⟩ := List.mem_map.mp ((sortI_perm _).mem_iff.mp hx)
    exact h p (List.mem_filter.mp hp).1
  sum := Nat.le_trans (sum_le_filter ps) hl
theorem we_sortV {c : Bool} {v : IV} {ns : List Int} {st : Sto} {E : EX} {Q : IV → Sto → Prop} (h : we (newL c ((sortI ns).map .int)) st E Q) (e : intsAt st v = some ns) : we (sortM c [v]) st E Q := by
  obtain ⟨r, st', e1, q⟩ := h
  refine ⟨r, st', ?_, q⟩
  unfold sortM
  simp only [e]
  exact e1
theorem we_tabOf {st : Sto} {v : IV} {r b : Int} {k : Option Nat} {ps : List (Int × Int)} (hs : srcM v st = some (.val (ps.map prV, k), st)) (hz : srcOk k (ps.map prV) st) (ht : Tb r b (rowsP r ps)) (hl : ps.length ≤ 1000) :
    g_table_of [.int r, .int b, v] st = some (.val (objT r b (rowsP r ps)), st) := by
  refine run_of (we_def (ls := [some (.int r), some (.int b), some v, none, none, none, none]) rfl ?_)
  unfold m_table_of
  have r8 := ht.r8
  walk_at "mk"
  refine ⟨⟨by omega, by omega⟩, ?_⟩
  rw [show rangeI 0 r.toNat = (rngL r).map IV.int by rw [← rangeI_rng]]
  refine compL_map (as := rngL r) .int (fun _ => true) (fun a => tupI (sortI ((ps.filter fun p => decide (p.1 = a)).map (·.2)))) trivial (fun a ha => ⟨_, rfl, by walk_at "mk"; exact ⟨rfl, rfl⟩, fun _ => ?_⟩) ?_
  · walk_at "mk"
    refine ⟨_, hs, ?_⟩
    refine compL_map (as := ps) prV (fun p => decide (p.1 = a)) (fun p => .int p.2) hz (fun p hp => ⟨_, rfl, ?_, fun _ => by walk_at "mk"; exact ⟨rfl, rfl⟩⟩) ?_
    · walk_at "mk"
      exact ⟨by rw [Bool.eq_iff_iff]; simp [PyData.eqv], rfl⟩
    · have := List.length_filter_le (fun p : Int × Int => decide (p.1 = a)) ps
      refine len_and (by rw [List.length_map]; omega) ?_
      walk_at "mk"
      refine we_sort ?_ (show intsOf _ = some ((ps.filter fun p => decide (p.1 = a)).map (·.2)) from ?_)
      · walk_at "mk"
        exact ⟨rfl, rfl⟩
      · rw [show (ps.filter fun p => decide (p.1 = a)).map (fun p => IV.int p.2) = ((ps.filter fun p => decide (p.1 = a)).map (·.2)).map .int by rw [List.map_map]; rfl]
        exact intsOf_map _
  · rw [List.filter_eq_self.mpr fun _ _ => rfl]
    refine len_and (by rw [List.length_map, rngL_len]; omega) ?_
    walk_at "mk"
    refine we_mkT (rows := rowsP r ps) ht ?_
    walk_at "mk"
    refine ⟨?_, close_len rfl ⟨rfl, rfl⟩⟩
    unfold rowsP
    rw [List.map_map]
    rfl
theorem r_ptable {st : Sto} {r b : Int} {ns : List Int} (hr : r = 1 ∨ r = 2 ∨ r = 4 ∨ r = 8) (hb : 0 ≤ b ∧ b ≤ 5) (hl : ns.length ≤ 24) (h : ∀ n ∈ ns, 0 ≤ n ∧ n < 256) : g_print_table [.int r, .int b, tupI ns] st = some (.val (objT r b (rowsP r (ns.map (placeF r b)))), st) := by
  refine run_of (we_def (ls := [some (.int r), some (.int b), some (tupI ns), none]) rfl ?_)
  unfold m_print_table
  have r8 : 1 ≤ r ∧ r ≤ 8 := by omega
  walk_at "mk"
  refine we_monoX (r_check (r := .int r) (b := .int b) rfl rfl) ?_ ?_
  · rintro cl f v st' ⟨_, _, _, h | h⟩
    · rw [isRoom_of hr] at h; exact absurd h.1 (by decide)
    · have e : isIn 0 5 (.int b) = true := by simpa [isIn] using hb
      rw [e] at h; exact absurd h.2.1 (by decide)
  · rintro v st' ⟨rfl, rfl, _, _⟩
    walk_at "mk"
    rw [List.length_map]
    refine ⟨fun h1 => ?_, fun h1 => ?_⟩
    · have := of_decide_eq_true h1; omega
    walk_at "mk"
    refine compL_map (as := ns) .int (fun _ => true) (fun n => .bl (isIn 0 255 (.int n))) trivial (fun n hn => ⟨_, rfl, by walk_at "mk"; exact ⟨rfl, rfl⟩, fun _ => ?_⟩) ?_
    · walk_at "mk"
      refine we_run (r_print rfl) ?_
      exact ⟨rfl, rfl⟩
    rw [List.filter_eq_self.mpr fun _ _ => rfl]
    refine len_and (by rw [List.length_map]; omega) ?_
    walk_at "mk"
    refine we_allL (bs := ns.map fun n => isIn 0 255 (.int n)) ?_ ?_
    · have z := boolsOf_map (ns.map fun n => isIn 0 255 (.int n))
      rw [List.map_map] at z
      exact z
    have ea : (ns.map fun n => isIn 0 255 (.int n)).all id = true := by
      rw [List.all_map, List.all_eq_true]
      intro n hn
      have := h n hn
      simp [isIn]; omega
    rw [ea]
    walk_at "mk"
    refine compL_map (as := ns) .int (fun _ => true) (fun n => prV (placeF r b n)) trivial (fun n hn => ⟨_, rfl, by walk_at "mk"; exact ⟨rfl, rfl⟩, fun _ => ?_⟩) ?_
    · walk_at "mk"
      refine we_run (r_place r8 hb) ?_
      exact ⟨rfl, rfl⟩
    rw [List.filter_eq_self.mpr fun _ _ => rfl]
    refine len_and (by rw [List.length_map]; omega) ?_
    walk_at "mk"
    have e : ns.map (fun n => prV (placeF r b n)) = (ns.map (placeF r b)).map prV := by rw [List.map_map]; rfl
    rw [e]
    have hp := pow_pos5 hb
    refine we_run (we_tabOf (k := none) rfl trivial (tb_rows hr hb (by rw [List.length_map]; omega) fun p hp' => ?_) (by rw [List.length_map]; omega)) ?_
    · obtain ⟨n, _, rfl⟩ := List.mem_map.mp hp'
      exact ⟨Int.emod_nonneg _ (by omega), Int.emod_lt_of_pos _ hp.1⟩
    · exact close_len rfl ⟨rfl, rfl⟩
end Law
end
section
set_option maxHeartbeats 2000000
namespace Law
open PySem L2 MK
local macro_rules | `(tactic| walk_at "mk1") => `(tactic| first
  | with_reducible refine Rule.ok ?_ | ((with_reducible refine' we_var ?hh ?_); (case hh => rfl)) | with_reducible refine eq_and rfl ?_ | ((with_reducible refine len_and ?hh ?_); (case hh => simp; done)) | with_reducible refine o_mod (by omega) ?_ | with_reducible refine o_div (by omega) ?_
  | with_reducible refine o_mul (by omega) (by omega) ?_ | ((with_reducible refine' o_ixC ?hh ?h2 ?_); (case hh => assumption); (case h2 => rfl)) | ((with_reducible refine' o_ixS ?hh ?_); (case hh => assumption)) | ((with_reducible refine' o_ixT ?hh ?_); (case hh => assumption))
  | ((with_reducible refine' o_ixL ?hh ?_); (case hh => assumption)) | ((with_reducible refine' o_ixT ?hh ?_); (case hh => rfl)) | ((with_reducible refine' o_ixL ?hh ?_); (case hh => rfl)) | with_reducible refine o_pow (by decide) (by decide) ?_
  | ((with_reducible refine' we_lenC ?hh ?_); (case hh => assumption)) | ((with_reducible refine' we_tupleC ?hh ?_); (case hh => assumption)) | (refine way_t rfl ?_) | (refine way_f rfl ?_) | ((refine' Exists.intro _ (And.intro ?hh ?_)); (case hh => rfl)))
local macro_rules | `(tactic| walk_at "mk") => `(tactic| repeat walk_at "mk1")
theorem r_power {st : Sto} {b : Int} (hb : 0 ≤ b ∧ b ≤ 5) : g_law_power [.int b] st = some (.val (.int (2 ^ b.toNat)), st) := by
  refine run_of (we_def (ls := [some (.int b)]) rfl ?_)
  unfold m_law_power
  have : b = 0 ∨ b = 1 ∨ b = 2 ∨ b = 3 ∨ b = 4 ∨ b = 5 := by omega
  rcases this with rfl | rfl | rfl | rfl | rfl | rfl
  all_goals
    walk_at "mk"
    exact close_len rfl ⟨rfl, rfl⟩
end Law
end
section
set_option maxHeartbeats 2000000
namespace Law
open PySem L2 MK
local macro_rules | `(tactic| walk_at "mk1") => `(tactic| first
  | with_reducible refine Rule.ok ?_ | ((with_reducible refine' we_var ?hh ?_); (case hh => rfl)) | with_reducible refine eq_and rfl ?_ | ((with_reducible refine len_and ?hh ?_); (case hh => simp; done)) | with_reducible refine o_mod (by omega) ?_ | with_reducible refine o_div (by omega) ?_
  | with_reducible refine o_mul (by omega) (by omega) ?_ | ((with_reducible refine' o_ixC ?hh ?h2 ?_); (case hh => assumption); (case h2 => rfl)) | ((with_reducible refine' o_ixS ?hh ?_); (case hh => assumption)) | ((with_reducible refine' o_ixT ?hh ?_); (case hh => assumption))
  | ((with_reducible refine' o_ixL ?hh ?_); (case hh => assumption)) | ((with_reducible refine' o_ixT ?hh ?_); (case hh => rfl)) | ((with_reducible refine' o_ixL ?hh ?_); (case hh => rfl)) | with_reducible refine o_pow (by decide) (by decide) ?_
  | ((with_reducible refine' we_lenC ?hh ?_); (case hh => assumption)) | ((with_reducible refine' we_tupleC ?hh ?_); (case hh => assumption)) | (refine way_t rfl ?_) | (refine way_f rfl ?_) | ((refine' Exists.intro _ (And.intro ?hh ?_)); (case hh => rfl)))
local macro_rules | `(tactic| walk_at "mk") => `(tactic| repeat walk_at "mk1")
theorem cmpb_rows {n : Nat} {rows : List (List Int)} (hl : rows.length ≤ 1000000) (h : ∀ row ∈ rows, row.length ≤ 1000000) : cmpb (n + 2) (.tup (rows.map tupI)) = true := cmpb_tup.mpr ⟨by rw [List.length_map]; exact hl, fun v hv => by
  obtain ⟨m, hm, rfl⟩ := List.mem_map.mp hv
  exact cmpb_tupI (h m hm)⟩
theorem Tb.cmpb {r b : Int} {rows : List (List Int)} (h : Tb r b rows) {n : Nat} : cmpb (n + 2) (.tup (rows.map tupI)) = true := cmpb_rows (by have := h.len; have := h.r8; omega) fun row hr => by have := h.row_len row hr; omega
def leavesF (r b : Int) (ns : List Int) (a : Int) : List Int := (ns.filter fun n => decide (n % r = a)).map fun n => n / r % 2 ^ b.toNat
theorem leaves_rows {r b : Int} {ns : List Int} : rowsP r (ns.map (placeF r b)) = (rngL r).map fun a => sortI (leavesF r b ns a) := by
  unfold rowsP leavesF
  refine List.map_congr_left fun a _ => ?_
  rw [List.filter_map, List.map_map]
  rfl
theorem leaves_snoc {r b : Int} {ns : List Int} {n a : Int} : leavesF r b (ns ++ [n]) a = leavesF r b ns a ++ (if n % r = a then [n / r % 2 ^ b.toNat] else []) := by
  unfold leavesF
  rw [List.filter_append, List.map_append]
  congr 1
  by_cases h : n % r = a
  · simp [h]
  · simp [h]
def rowSt (st : Sto) (r b : Int) (ns : List Int) : Sto := st ++ (List.range r.toNat).map fun (j : Nat) => CV.lst ((leavesF r b ns (j : Int)).map .int)
theorem rowSt_get {st : Sto} {r b : Int} {ns : List Int} {j : Nat} (hj : j < r.toNat) : (rowSt st r b ns)[st.length + j]? = some (.lst ((leavesF r b ns (j : Int)).map .int)) := by
  unfold rowSt
  rw [List.getElem?_append_right (by omega), Nat.add_sub_cancel_left, List.getElem?_map, List.getElem?_range hj]
  rfl
theorem rowSt_set {st : Sto} {r b : Int} {ns : List Int} {n : Int} {j : Nat} (hj : j < r.toNat) (hn : n % r = j) : (rowSt st r b ns).set (st.length + j) (.lst ((leavesF r b ns (j : Int)).map .int ++ [.int (n / r % 2 ^ b.toNat)])) = rowSt st r b (ns ++ [n]) := by
  unfold rowSt
  rw [List.set_append_right _ _ (by omega), Nat.add_sub_cancel_left]
  congr 1
  apply List.ext_getElem?
  intro i
  by_cases hi : i < r.toNat
  · by_cases hij : j = i
    · subst hij
      rw [List.getElem?_set_self (by simpa using hi), List.getElem?_map, List.getElem?_range hi]
      simp [leaves_snoc, hn]
    · rw [List.getElem?_set_ne hij, List.getElem?_map, List.getElem?_map, List.getElem?_range hi]
      have : ¬ (n % r = (i : Int)) := by omega
      simp [leaves_snoc, this]
  · rw [List.getElem?_eq_none (by simp; omega), List.getElem?_eq_none (by simp; omega)]
theorem r_rows_of {st : Sto} {r b : Int} {ns : List Int} (hr : r = 1 ∨ r = 2 ∨ r = 4 ∨ r = 8) (hb : 0 ≤ b ∧ b ≤ 5) (hl : ns.length ≤ 1000) : g_law_rows_of [.int r, .int b, tupI ns] st = some (.val (.tup ((rowsP r (ns.map (placeF r b))).map tupI)), st) := by
  refine run_of (we_def (ls := [some (.int r), some (.int b), some (tupI ns), none, none, none, none]) rfl ?_)
  unfold m_law_rows_of
  have r8 : 1 ≤ r ∧ r ≤ 8 := by omega
  have hp := pow_pos5 hb
  walk_at "mk"
  refine ⟨⟨by omega, by omega⟩, ?_⟩
  refine compL_inv (fun q acc s => ∃ j : Nat, q = (rangeI 0 r.toNat).drop j ∧ j ≤ r.toNat ∧ acc = (List.range j).map (fun i => IV.cell (st.length + i)) ∧ s = st ++ List.replicate j (CV.lst [])) ?nl ?_ _ [] _ ⟨0, by simp, Nat.zero_le _, rfl, by simp⟩ ?_
  case nl => exact fun _ _ _ => trivial
  · rintro v q acc s ⟨j, hq, hj, rfl, rfl⟩
    obtain ⟨rfl, rfl, hlt⟩ := drop_rangeI hq
    refine ⟨trivial, _, rfl, ?_⟩
    walk_at "mk"
    refine we_newT rfl ⟨j + 1, rfl, hlt, ?_, ?_⟩
    · rw [List.range_succ, List.map_append]; simp
    · rw [List.append_assoc, ← List.replicate_succ']
  · rintro l s ⟨j, hq, hj, hacc, rfl⟩
    have hj' := drop_end hq
    have ej : j = r.toNat := by omega
    subst ej
    rw [List.nil_append] at hacc
    subst hacc
    refine len_and (by simp; omega) ?_
    have e0 : st ++ List.replicate r.toNat (CV.lst []) = rowSt st r b [] := by
      unfold rowSt leavesF
      congr 1
      simp [List.map_const']
    rw [e0]
    walk_at "mk"
    refine forL_inv (fun q ls s => ∃ done rest x4, ns = done ++ rest ∧ q = rest.map .int ∧ s = rowSt st r b done ∧ ls = [some (.int r), some (.int b), some (tupI ns), some (.lst ((List.range r.toNat).map fun i => IV.cell (st.length + i))), x4, none, none]) ?_ ?_ _ _ _ ⟨[], ns, none, rfl, rfl, rfl, rfl⟩
    · rintro ls s ⟨done, rest, x4, e, hq, rfl, rfl⟩
      have : rest = [] := List.map_eq_nil_iff.mp hq.symm
      subst this
      rw [List.append_nil] at e
      subst e
      refine ⟨trivial, ?_⟩
      walk_at "mk"
      refine compL_map (as := List.range r.toNat) (fun i => IV.cell (st.length + i)) (fun _ => true) (fun i => tupI (sortI (leavesF r b ns (i : Nat)))) trivial (fun i hi => ⟨_, rfl, by walk_at "mk"; exact ⟨rfl, rfl⟩, fun _ => ?_⟩) ?_
      · have hi := List.mem_range.mp hi
        walk_at "mk"
        refine we_sortV (ns := leavesF r b ns (i : Nat)) ?_ ?_
        · walk_at "mk"
          exact ⟨rfl, rfl⟩
        · unfold intsAt
          simp only [seqL, lstOf, rowSt_get hi, Option.bind_some]
          exact intsOf_map _
      · rw [List.filter_eq_self.mpr fun _ _ => rfl]
        refine len_and (by simp; omega) ?_
        walk_at "mk"
        have er : (List.range r.toNat).map (fun i => tupI (sortI (leavesF r b ns (i : Nat)))) = (rowsP r (ns.map (placeF r b))).map tupI := by
          rw [leaves_rows]
          unfold rngL
          rw [List.map_map, List.map_map]
          rfl
        rw [er]
        refine close_pure ?_ ⟨rfl, ?_⟩ (by unfold rowSt; simp)
        · refine dat_pure _ (cmpb_dat 2 _ (cmpb_rows (n := 0) ?_ fun row hrow => ?_))
          · have := rowsP_len r8.1 (ns.map (placeF r b)); omega
          · rw [leaves_rows] at hrow
            obtain ⟨a, _, rfl⟩ := List.mem_map.mp hrow
            rw [(sortI_perm _).length_eq]
            unfold leavesF
            rw [List.length_map]
            have := List.length_filter_le (fun n => decide (n % r = a)) ns
            omega
        · unfold rowSt
          simp
    · rintro v q ls s ⟨done, rest, x4, e, hq, rfl, rfl⟩
      cases rest with
      | nil => cases hq
      | cons n rest =>
        cases hq
        have h0 := Int.emod_nonneg n (show r ≠ 0 by omega)
        have h1 := Int.emod_lt_of_pos n (show 0 < r by omega)
        have hjr : (n % r).toNat < r.toNat := by omega
        have hx : atI ((List.range r.toNat).map fun i => IV.cell (st.length + i)) (n % r) = some (.cell (st.length + (n % r).toNat)) := atI_get h0 (by rw [List.getElem?_map, List.getElem?_range hjr]; rfl)
        have hg := rowSt_get (st := st) (b := b) (ns := done) hjr
        refine ⟨trivial, _, rfl, ?_⟩
        walk_at "mk"
        refine ⟨st.length + (n % r).toNat, _, rfl, hg, ?_⟩
        walk_at "mk"
        refine we_run (r_power hb) ?_
        refine o_mod hp.1 ?_
        walk_at "mk"
        refine we_app hg rfl ?_ ⟨done ++ [n], rest, some (.int n), by simp [e], rfl, ?_, rfl⟩
        · have h2 : (leavesF r b done ((n % r).toNat : Nat)).length ≤ done.length := by
            unfold leavesF
            rw [List.length_map]
            exact List.length_filter_le _ _
          have h3 := congrArg List.length e
          rw [List.length_append, List.length_cons] at h3
          rw [List.length_map]
          omega
        · exact rowSt_set hjr (by omega)
end Law
end
section
set_option maxHeartbeats 2000000
namespace Law
open PySem L2 MK
local macro_rules | `(tactic| walk_at "mk1") => `(tactic| first
  | with_reducible refine Rule.ok ?_ | ((with_reducible refine' we_var ?hh ?_); (case hh => rfl)) | with_reducible refine eq_and rfl ?_ | ((with_reducible refine len_and ?hh ?_); (case hh => simp; done)) | with_reducible refine o_mod (by omega) ?_ | with_reducible refine o_div (by omega) ?_
  | with_reducible refine o_mul (by omega) (by omega) ?_ | ((with_reducible refine' o_ixC ?hh ?h2 ?_); (case hh => assumption); (case h2 => rfl)) | ((with_reducible refine' o_ixS ?hh ?_); (case hh => assumption)) | ((with_reducible refine' o_ixT ?hh ?_); (case hh => assumption))
  | ((with_reducible refine' o_ixL ?hh ?_); (case hh => assumption)) | ((with_reducible refine' o_ixT ?hh ?_); (case hh => rfl)) | ((with_reducible refine' o_ixL ?hh ?_); (case hh => rfl)) | with_reducible refine o_pow (by decide) (by decide) ?_
  | ((with_reducible refine' we_lenC ?hh ?_); (case hh => assumption)) | ((with_reducible refine' we_tupleC ?hh ?_); (case hh => assumption)) | (refine way_t rfl ?_) | (refine way_f rfl ?_) | ((refine' Exists.intro _ (And.intro ?hh ?_)); (case hh => rfl)))
local macro_rules | `(tactic| walk_at "mk") => `(tactic| repeat walk_at "mk1")
theorem r_prints {st : Sto} {n : Nat} {most : Int} (hb : BoxAt st n) (hm : 0 ≤ most ∧ most ≤ 24) :
    we (g_law_prints [.cell n, .int most]) st noX fun v st' => ∃ ns : List Int, v = tupI ns ∧ (ns.length : Int) ≤ most ∧ (∀ x ∈ ns, 0 ≤ x ∧ x < 256) ∧ Only1 n st st' ∧ BoxAt st' n := by
  have hn := hb.lt
  refine we_def (ls := [some (.cell n), some (.int most), none, none, none]) rfl ?_
  unfold m_law_prints
  walk_at "mk"
  refine we_newT rfl ?_
  walk_at "mk"
  refine we_nox (r_take hb.app (by omega) (by omega)) ?_
  rintro v1 s1 ⟨q1, rfl, a0, a1, o1, hb1⟩
  walk_at "mk"
  refine we_nox (r_take hb1 (by omega) (by omega)) ?_
  rintro v2 s2 ⟨q2, rfl, b0, b1, o2, hb2⟩
  walk_at "mk"
  refine we_nox (r_take hb2 (by omega) (by omega)) ?_
  rintro v3 s3 ⟨q3, rfl, c0, c1, o3, hb3⟩
  walk_at "mk"
  refine we_nox (r_pick hb3 SeqIn.lst (by simp) (by simp)) ?_
  rintro v s4 ⟨hv, o4, hb4⟩
  obtain ⟨m, rfl, m0, m1⟩ : ∃ m : Int, v = .int m ∧ 0 ≤ m ∧ m ≤ most := by
    simp only [List.mem_cons, List.not_mem_nil, or_false] at hv
    rcases hv with rfl | rfl | rfl | rfl <;> exact ⟨_, rfl, by omega, by omega⟩
  have o14 : OnlyN n st s4 := OnlyN.app.trans ((OnlyN.of o1).trans ((OnlyN.of o2).trans ((OnlyN.of o3).trans (.of o4))))
  have e4 : s4[st.length]? = some (.lst []) := by
    rw [o4.ne _ (by omega), o3.ne _ (by omega), o2.ne _ (by omega), o1.ne _ (by omega)]
    exact app_get
  walk_at "mk"
  refine ⟨⟨by omega, by omega⟩, ?_⟩
  refine forL_inv (fun r ls s => ∃ f x3 x4, ls = [some (.cell n), some (.int most), some (.cell st.length), x3, x4] ∧ s[st.length]? = some (.lst (f.map .int)) ∧ BoxAt s n ∧ OnlyN n st s ∧ ((f.length : Int) + r.length = m) ∧ ∀ x ∈ f, 0 ≤ x ∧ x < 256) ?_ ?_ _ _ _
    ⟨[], none, none, rfl, e4, hb4, o14, by simp only [rangeI, List.length_map, List.length_range, List.length_nil]; omega, by simp⟩
  · rintro ls s ⟨f, x3, x4, rfl, e, hb', o, hf, hx⟩
    refine ⟨trivial, ?_⟩
    walk_at "mk"
    refine close_pure ?_ ⟨f, rfl, by simp at hf; omega, hx, o.take, hb'.take hn⟩ o.len
    exact dat_pure _ (dat_tupI f)
  · rintro v r ls s ⟨f, x3, x4, rfl, e, hb', o, hf, hx⟩
    have hfl : f.length ≤ 24 := by simp at hf; omega
    refine ⟨trivial, _, rfl, ?_⟩
    walk_at "mk"
    refine we_nox (r_take hb' (by omega) (by omega)) ?_
    rintro v5 s5 ⟨z, rfl, z0, z1, o5, hb5⟩
    have e5 : s5[st.length]? = some (.lst (f.map .int)) := by rw [o5.ne _ (by omega)]; exact e
    walk_at "mk"
    refine o_neC e5 (fun v hv => by obtain ⟨i, _, rfl⟩ := List.mem_map.mp hv; rfl) ?_
    have fin : ∀ (s' : Sto) (y : Int) (x4' : Option IV), s'[st.length]? = some (.lst (f.map .int)) → BoxAt s' n → OnlyN n st s' → 0 ≤ y ∧ y < 256 →
        (s'.set st.length (.lst (f.map .int ++ [.int y])))[st.length]? = some (.lst ((f ++ [y]).map .int)) ∧ BoxAt (s'.set st.length (.lst (f.map .int ++ [.int y]))) n ∧ OnlyN n st (s'.set st.length (.lst (f.map .int ++ [.int y]))) ∧ (((f ++ [y]).length : Int) + r.length = m) ∧ ∀ x ∈ f ++ [y], 0 ≤ x ∧ x < 256 := fun s' y _ e' hb' o' hy => by
      refine ⟨by rw [set_get e']; simp, hb'.set (by omega), o'.set (Nat.le_refl _), by simp at hf ⊢; omega, fun x hx' => ?_⟩
      rcases List.mem_append.mp hx' with h | h
      · exact hx x h
      · simp at h; subst h; exact hy
    have oo := o.trans (.of o5)
    refine ⟨_, rfl, fun h1 => ?_, fun h1 => ?_⟩
    · walk_at "mk"
      refine we_nox (r_take hb5 (by omega) (by omega)) ?_
      rintro v6 s6 ⟨z6, rfl, z60, z61, o6, hb6⟩
      have e6 : s6[st.length]? = some (.lst (f.map .int)) := by rw [o6.ne _ (by omega)]; exact e5
      walk_at "mk"
      have oo6 := oo.trans (.of o6)
      refine ⟨fun h2 => ?_, fun h2 => ?_⟩
      · have hne : f.map IV.int ≠ [] := fun z => by rw [z] at h1; simp at h1
        walk_at "mk"
        refine we_nox (r_pick hb6 (.cell e6 (by omega)) hne (by rw [List.length_map]; omega)) ?_
        rintro v7 s7 ⟨hv7, o7, hb7⟩
        obtain ⟨y7, _, rfl⟩ := List.mem_map.mp hv7
        have e7 : s7[st.length]? = some (.lst (f.map .int)) := by rw [o7.ne _ (by omega)]; exact e6
        walk_at "mk"
        refine we_nox (r_pick hb7 SeqIn.lst (by simp) (by simp)) ?_
        rintro v8 s8 ⟨hv8, o8, hb8⟩
        obtain ⟨y8, rfl⟩ : ∃ y : Int, v8 = .int y := by
          simp only [List.mem_cons, List.not_mem_nil, or_false] at hv8
          rcases hv8 with rfl | rfl | rfl | rfl | rfl <;> exact ⟨_, rfl⟩
        have e8 : s8[st.length]? = some (.lst (f.map .int)) := by rw [o8.ne _ (by omega)]; exact e7
        walk_at "mk"
        refine ⟨st.length, _, rfl, e8, ?_⟩
        walk_at "mk"
        refine we_app e8 rfl (by rw [List.length_map]; omega) ?_
        exact ⟨f ++ [(y7 + y8) % 256], _, _, rfl, fin s8 _ none e8 hb8 ((oo6.trans (.of o7)).trans (.of o8)) ⟨Int.emod_nonneg _ (by decide), Int.emod_lt_of_pos _ (by decide)⟩⟩
      · walk_at "mk"
        refine ⟨st.length, _, rfl, e6, ?_⟩
        walk_at "mk"
        refine we_app e6 rfl (by rw [List.length_map]; omega) ?_
        exact ⟨f ++ [z], _, _, rfl, fin s6 _ none e6 hb6 oo6 ⟨z0, z1⟩⟩
    · walk_at "mk"
      refine ⟨st.length, _, rfl, e5, ?_⟩
      walk_at "mk"
      refine we_app e5 rfl (by rw [List.length_map]; omega) ?_
      exact ⟨f ++ [z], _, _, rfl, fin s5 _ none e5 hb5 oo ⟨z0, z1⟩⟩
end Law
end
section
set_option maxHeartbeats 2000000
namespace Law
open PySem L2 MK
local macro_rules | `(tactic| walk_at "mk1") => `(tactic| first
  | with_reducible refine Rule.ok ?_ | ((with_reducible refine' we_var ?hh ?_); (case hh => rfl)) | with_reducible refine eq_and rfl ?_ | ((with_reducible refine len_and ?hh ?_); (case hh => simp; done)) | with_reducible refine o_mod (by omega) ?_ | with_reducible refine o_div (by omega) ?_
  | with_reducible refine o_mul (by omega) (by omega) ?_ | ((with_reducible refine' o_ixC ?hh ?h2 ?_); (case hh => assumption); (case h2 => rfl)) | ((with_reducible refine' o_ixS ?hh ?_); (case hh => assumption)) | ((with_reducible refine' o_ixT ?hh ?_); (case hh => assumption))
  | ((with_reducible refine' o_ixL ?hh ?_); (case hh => assumption)) | ((with_reducible refine' o_ixT ?hh ?_); (case hh => rfl)) | ((with_reducible refine' o_ixL ?hh ?_); (case hh => rfl)) | with_reducible refine o_pow (by decide) (by decide) ?_
  | ((with_reducible refine' we_lenC ?hh ?_); (case hh => assumption)) | ((with_reducible refine' we_tupleC ?hh ?_); (case hh => assumption)) | (refine way_t rfl ?_) | (refine way_f rfl ?_) | ((refine' Exists.intro _ (And.intro ?hh ?_)); (case hh => rfl)))
local macro_rules | `(tactic| walk_at "mk") => `(tactic| repeat walk_at "mk1")
theorem tjoinH {b : Bool} {t f : MT} {ls : MK.Loc} {st : Sto} {E : EX} {C : Bool → Sto → Prop} {v : Bool} (ht : b = true → t ls st = some (.val v, st)) (hf : b = false → f ls st = some (.val v, st)) (q : C v st) :
    (b = true → we (t ls) st E C) ∧ (b = false → we (f ls) st E C) := ⟨fun h => we_run (ht h) q, fun h => we_run (hf h) q⟩
def Vals (l : List IV) : Prop := ∀ v ∈ l, cmpb 30 v = true
theorem Vals.nil : Vals [] := fun v h => by cases h
theorem Vals.cons {v : IV} {l : List IV} (h : cmpb 30 v = true) (hl : Vals l) : Vals (v :: l) := fun w hw => by
  rcases List.mem_cons.mp hw with e | e
  · subst e; exact h
  · exact hl w e
theorem Vals.app {l m : List IV} (h : Vals l) (hm : Vals m) : Vals (l ++ m) := fun v hv => (List.mem_append.mp hv).elim (h v) (hm v)
theorem Vals.pure {l : List IV} (h : Vals l) : pureL l = true := datL_pure _ (cmpbL_dat 30 _ (cmpbL_iff.mpr h))
end Law
end
section
set_option maxHeartbeats 2000000
namespace Law
open PySem L2 MK
local macro_rules | `(tactic| walk_at "mk1") => `(tactic| first
  | with_reducible refine Rule.ok ?_ | ((with_reducible refine' we_var ?hh ?_); (case hh => rfl)) | with_reducible refine eq_and rfl ?_ | ((with_reducible refine len_and ?hh ?_); (case hh => simp; done)) | with_reducible refine o_mod (by omega) ?_ | with_reducible refine o_div (by omega) ?_
  | with_reducible refine o_mul (by omega) (by omega) ?_ | ((with_reducible refine' o_ixC ?hh ?h2 ?_); (case hh => assumption); (case h2 => rfl)) | ((with_reducible refine' o_ixS ?hh ?_); (case hh => assumption)) | ((with_reducible refine' o_ixT ?hh ?_); (case hh => assumption))
  | ((with_reducible refine' o_ixL ?hh ?_); (case hh => assumption)) | ((with_reducible refine' o_ixT ?hh ?_); (case hh => rfl)) | ((with_reducible refine' o_ixL ?hh ?_); (case hh => rfl)) | with_reducible refine o_pow (by decide) (by decide) ?_
  | ((with_reducible refine' we_lenC ?hh ?_); (case hh => assumption)) | ((with_reducible refine' we_tupleC ?hh ?_); (case hh => assumption)) | (refine way_t rfl ?_) | (refine way_f rfl ?_) | ((refine' Exists.intro _ (And.intro ?hh ?_)); (case hh => rfl)))
local macro_rules | `(tactic| walk_at "mk") => `(tactic| repeat walk_at "mk1")
theorem we_lc2 {cell : Bool} {src : MI} {vs : List Nat} {t : MG} {c : MT} {src1 : MI} {vs1 : List Nat} {t1 : MG} {c1 : MT} {e : ME} {ls : MK.Loc} {st : Sto} {E : EX} {Q : IV → Sto → Prop}
    (h : we (src ls) st E fun p st1 => we (compF t c (mClauseL src1 vs1 t1 c1 (mOne e)) p.1 p.2 (wipeI ls vs) p.1) st1 noX fun l st2 => l.length ≤ 16777215 ∧ we (newL cell l) st2 E Q) :
    we (mLc2 cell src vs t c src1 vs1 t1 c1 e ls) st E Q := by
  unfold mLc2 mClauseL
  refine we_bind (we_bind (we_mono h fun p st1 h1 => we_noxM (we_mono h1 fun l st2 ⟨z, q⟩ => ?_)))
  rw [if_pos z]; exact q
theorem we_clauseL {src : MI} {vs : List Nat} {t : MG} {c : MT} {inn : MBL} {ls : MK.Loc} {st : Sto} {E : EX} {Q : List IV → Sto → Prop}
    (h : we (src ls) st E fun p st1 => we (compF t c inn p.1 p.2 (wipeI ls vs) p.1) st1 noX Q) : we (mClauseL src vs t c inn ls) st E Q :=
  we_bind (we_mono h fun p st1 h1 => we_noxM h1)
theorem we_one {e : ME} {ls : MK.Loc} {st : Sto} {E : EX} {Q : List IV → Sto → Prop} (h : we (e ls) st E fun v st1 => Q [v] st1) : we (mOne e ls) st E Q :=
  we_bind (we_mono h fun v st1 q => ⟨_, _, rfl, q⟩)
theorem compF_map {α : Type} {t : MG} {c : MT} {inn : MBL} {l0 : List IV} {k : Option Nat} {ls : MK.Loc} {st : Sto} {QL : List IV → Sto → Prop} {as : List α} (g : α → IV) (f : α → List IV) (z : srcOk k l0 st)
    (step : ∀ a ∈ as, ∃ ls1, t ls (g a) = some ls1 ∧ we (c ls1) st noX (fun b st' => b = true ∧ st' = st) ∧ we (inn ls1) st noX fun v st' => v = f a ∧ st' = st) (q : QL (as.flatMap f) st) :
    we (compF t c inn l0 k ls (as.map g)) st noX QL := by
  refine ⟨.val (as.flatMap f), st, ?_, q⟩
  clear q
  induction as with
  | nil => simp only [List.map_nil]; unfold compF; rw [if_pos z]; rfl
  | cons a as ih =>
    obtain ⟨ls1, e1, e2, e3⟩ := step a List.mem_cons_self
    have e2 := run_of e2
    have e3 := run_of e3
    have ih' := ih fun w hw => step w (List.mem_cons_of_mem _ hw)
    simp only [List.map_cons]
    unfold compF
    rw [if_pos z, e1]
    show M.bind (M.nox (c ls1)) _ st = _
    rw [M.bind_run (M.nox_run e2), if_pos rfl, M.bind_run (M.nox_run e3), M.bind_run ih']
    rfl
def plcR (R : List (List Int)) : List (Int × Int) := (rngL R.length).flatMap fun i => (getM R i).map fun n => (i, n)
theorem plcR_len (R : List (List Int)) : (plcR R).length = (R.map List.length).sum := by
  have e : ∀ R : List (List Int), (rngL R.length).map (getM R) = R := fun R => by
    apply List.ext_getElem?
    intro i
    unfold rngL getM
    rw [List.getElem?_map, List.getElem?_map]
    by_cases h : i < R.length
    · rw [List.getElem?_range (by simpa using h), List.getElem?_eq_getElem h]
      simp [h]
    · rw [List.getElem?_eq_none (by simpa using h), List.getElem?_eq_none (by omega)]
      rfl
  unfold plcR
  rw [List.length_flatMap]
  conv => rhs; rw [← e R, List.map_map]
  congr 1
  refine List.map_congr_left fun i _ => ?_
  simp
theorem prs_cmpb {n : Nat} {qs : List (Int × Int)} : ∀ v ∈ qs.map prV, cmpb (n + 1) v = true := fun v hv => by
  obtain ⟨p, _, rfl⟩ := List.mem_map.mp hv
  exact cmpb_tupI (n := n) (ns := [p.1, p.2]) (by simp)
theorem prs_pure (qs : List (Int × Int)) : pureL (qs.map prV) = true := datL_pure _ (cmpbL_dat 1 _ (cmpbL_iff.mpr prs_cmpb))
theorem r_places {st : Sto} {r b : Int} {R : List (List Int)} (h8 : R.length ≤ 8) (h24 : (R.map List.length).sum ≤ 1000) : g_places [objT r b R] st = some (.val (.cell st.length), st ++ [.lst ((plcR R).map prV)]) := by
  have key : we (g_places [objT r b R]) st noX fun v st' => v = .cell st.length ∧ st' = st ++ [.lst ((plcR R).map prV)] := by
    refine we_def (ls := [some (objT r b R), none, none, none]) rfl ?_
    unfold m_places
    walk_at "mk"
    refine we_lc2 ?_
    walk_at "mk"
    rw [enumL_tups]
    refine compF_map (as := rngL R.length) (fun i => .tup [.int i, tupI (getM R i)]) (fun i => ((getM R i).map fun n => (i, n)).map prV) trivial (fun i hi => ⟨_, rfl, by walk_at "mk"; exact ⟨rfl, rfl⟩, ?_⟩) ?_
    · refine we_clauseL ?_
      walk_at "mk"
      refine compF_map (as := getM R i) .int (fun n => [prV (i, n)]) trivial (fun n hn => ⟨_, rfl, by walk_at "mk"; exact ⟨rfl, rfl⟩, ?_⟩) ?_
      · refine we_one ?_
        walk_at "mk"
        exact ⟨rfl, rfl⟩
      · refine ⟨?_, rfl⟩
        rw [List.map_map]
        show (getM R i).flatMap (fun n => [prV (i, n)]) = _
        rw [← List.map_eq_flatMap]
        rfl
    have e : (rngL R.length).flatMap (fun i => ((getM R i).map fun n => (i, n)).map prV) = (plcR R).map prV := by
      unfold plcR
      rw [List.map_flatMap]
    rw [e]
    refine ⟨by rw [List.length_map, plcR_len]; omega, ?_⟩
    refine we_newT (prs_pure _) ?_
    exact close_keep ⟨rfl, rfl⟩
  obtain ⟨r, st', e, q⟩ := key
  cases r with
  | val v => obtain ⟨rfl, rfl⟩ := q; exact e
  | exc c f v => exact q.elim
theorem fm_ext {α β : Type} {l : List α} {f g : α → List β} (h : ∀ a ∈ l, f a = g a) : l.flatMap f = l.flatMap g := by
  rw [List.flatMap_def, List.flatMap_def, List.map_congr_left h]
theorem sel_perm : ∀ (L : List Int) (ps : List (Int × Int)), L.Nodup → (∀ p ∈ ps, p.1 ∈ L) → (L.flatMap fun a => ps.filter fun p => decide (p.1 = a)).Perm ps
  | [], ps, _, h => by
    cases ps with
    | nil => exact .refl _
    | cons p ps => exact absurd (h p List.mem_cons_self) (by simp)
  | a :: L, ps, nd, h => by
    obtain ⟨n1, n2⟩ := List.nodup_cons.mp nd
    rw [List.flatMap_cons]
    have ih := sel_perm L (ps.filter fun p => !decide (p.1 = a)) n2 fun p hp => by
      obtain ⟨h1, h2⟩ := List.mem_filter.mp hp
      rcases List.mem_cons.mp (h p h1) with e | e
      · simp [e] at h2
      · exact e
    have e : (L.flatMap fun b => (ps.filter fun p => !decide (p.1 = a)).filter fun p => decide (p.1 = b)) = L.flatMap fun b => ps.filter fun p => decide (p.1 = b) := by
      refine fm_ext fun b hb => ?_
      rw [List.filter_filter]
      refine List.filter_congr fun p _ => ?_
      have hne : a ≠ b := fun z => n1 (z ▸ hb)
      rw [Bool.eq_iff_iff]
      simp only [Bool.and_eq_true, decide_eq_true_eq, Bool.not_eq_true', decide_eq_false_iff_not]
      exact ⟨fun h => h.1, fun h => ⟨h, fun z => hne (z.symm.trans h)⟩⟩
    rw [e] at ih
    exact (List.Perm.append_left _ ih).trans (List.filter_append_perm _ _)
theorem getM_rows {r : Int} {ps : List (Int × Int)} {i : Int} (h : i ∈ rngL r) : getM (rowsP r ps) i = sortI ((ps.filter fun p => decide (p.1 = i)).map (·.2)) := by
  have h := rngL_mem.mp h
  have hl : i.toNat < r.toNat := by omega
  unfold getM rowsP rngL
  rw [List.getD_eq_getElem?_getD, List.getElem?_map, List.getElem?_map, List.getElem?_range hl]
  simp [show max i 0 = i by omega]
theorem plc_perm {r : Int} {ps : List (Int × Int)} (hr : 1 ≤ r) (h : ∀ p ∈ ps, 0 ≤ p.1 ∧ p.1 < r) : (plcR (rowsP r ps)).Perm ps := by
  have hl := rowsP_len hr ps
  refine List.Perm.trans ?_ (sel_perm (rngL r) ps (rngL_pw.imp fun q => Int.ne_of_lt q) fun p hp => rngL_mem.mpr (h p hp))
  unfold plcR
  rw [hl]
  have key : ∀ L : List Int, (∀ i ∈ L, i ∈ rngL r) → (L.flatMap fun i => (getM (rowsP r ps) i).map fun n => (i, n)).Perm (L.flatMap fun a => ps.filter fun p => decide (p.1 = a)) := fun L => by
    induction L with
    | nil => intro _; exact .refl _
    | cons a L ih =>
      intro hL
      rw [List.flatMap_cons, List.flatMap_cons]
      refine List.Perm.append ?_ (ih fun i hi => hL i (List.mem_cons_of_mem _ hi))
      rw [getM_rows (hL a List.mem_cons_self)]
      refine ((sortI_perm _).map _).trans ?_
      rw [List.map_map]
      refine List.Perm.of_eq ?_
      refine (List.map_congr_left (g := id) fun p hp => ?_).trans (List.map_id _)
      have := of_decide_eq_true (List.mem_filter.mp hp).2
      show (a, p.2) = p
      rw [← this]
  exact key _ fun _ h => h
theorem sortI_congr {a b : List Int} (h : a.Perm b) : sortI a = sortI b := by
  exact sortI_of ((sortI_perm a).trans h) (sortI_le a)
theorem rowsP_perm {r : Int} {ps qs : List (Int × Int)} (h : ps.Perm qs) : rowsP r ps = rowsP r qs := by
  unfold rowsP
  refine List.map_congr_left fun a _ => sortI_congr ((h.filter _).map _)
structure Ps (r b : Int) (ps : List (Int × Int)) : Prop where
  room : r = 1 ∨ r = 2 ∨ r = 4 ∨ r = 8
  bits : 0 ≤ b ∧ b ≤ 5
  len : ps.length ≤ 24
  fst : ∀ p ∈ ps, 0 ≤ p.1 ∧ p.1 < r
  snd : ∀ p ∈ ps, 0 ≤ p.2 ∧ p.2 < 2 ^ b.toNat
theorem Ps.r8 {r b : Int} {ps : List (Int × Int)} (h : Ps r b ps) : 1 ≤ r ∧ r ≤ 8 := by have := h.room; omega
theorem Ps.tb {r b : Int} {ps : List (Int × Int)} (h : Ps r b ps) : Tb r b (rowsP r ps) := tb_rows h.room h.bits h.len h.snd
theorem Ps.of {r b : Int} {ns : List Int} (hr : r = 1 ∨ r = 2 ∨ r = 4 ∨ r = 8) (hb : 0 ≤ b ∧ b ≤ 5) (hl : ns.length ≤ 24) : Ps r b (ns.map (placeF r b)) where
  room := hr
  bits := hb
  len := by rw [List.length_map]; exact hl
  fst p hp := by
    obtain ⟨n, _, rfl⟩ := List.mem_map.mp hp
    exact ⟨Int.emod_nonneg _ (by omega), Int.emod_lt_of_pos _ (by omega)⟩
  snd p hp := by
    obtain ⟨n, _, rfl⟩ := List.mem_map.mp hp
    have := pow_pos5 hb
    exact ⟨Int.emod_nonneg _ (by omega), Int.emod_lt_of_pos _ this.1⟩
theorem Ps.perm {r b : Int} {ps qs : List (Int × Int)} (h : Ps r b ps) (e : qs.Perm ps) : Ps r b qs where
  room := h.room
  bits := h.bits
  len := by rw [e.length_eq]; exact h.len
  fst p hp := h.fst p (e.mem_iff.mp hp)
  snd p hp := h.snd p (e.mem_iff.mp hp)
theorem Tb.pure {r b : Int} {R : List (List Int)} (h : Tb r b R) : (objT r b R).pure = true := by
  have z := dat_pure _ (cmpb_dat 2 _ (h.cmpb (n := 0)))
  show pureF (tbObj r b (R.map tupI)) = true
  simp only [tbObj, pureF, IV.pure, Bool.and_true, Bool.true_and] at z ⊢
  exact z
theorem Ps.pure {r b : Int} {ps : List (Int × Int)} (h : Ps r b ps) : (objT r b (rowsP r ps)).pure = true := h.tb.pure
abbrev objP (r b : Int) (ps : List (Int × Int)) : IV := objT r b (rowsP r ps)
theorem objP_perm {r b : Int} {ps qs : List (Int × Int)} (h : ps.Perm qs) : objP r b ps = objP r b qs := by unfold objP; rw [rowsP_perm h]
theorem plc_of {r b : Int} {ps : List (Int × Int)} (h : Ps r b ps) : ∃ qs : List (Int × Int), qs.Perm ps ∧ qs.length ≤ 24 ∧ ∀ st : Sto, g_places [objP r b ps] st = some (.val (.cell st.length), st ++ [.lst (qs.map prV)]) := by
  have hp := plc_perm h.r8.1 h.fst
  refine ⟨_, hp, by rw [hp.length_eq]; exact h.len, fun st => r_places ?_ ?_⟩
  · have := h.tb.len; have := h.r8; omega
  · have := h.tb.sum; omega
def pyV (p : Int × Int) : PyData := .tuple [.int p.1, .int p.2]
theorem toDL_prs : ∀ qs : List (Int × Int), toDL (qs.map prV) = some (qs.map pyV)
  | [] => rfl
  | p :: qs => by
    rw [List.map_cons]
    unfold toDL
    rw [toDL_prs qs]
    rfl
theorem eqv_prs (p q : Int × Int) : PyData.eqv (pyV p) (pyV q) = decide (p = q) := by
  obtain ⟨a, b⟩ := p
  obtain ⟨c, d⟩ := q
  rw [Bool.eq_iff_iff]
  simp [pyV, PyData.eqv, PyData.eqvAll]
theorem prs_shaped {qs : List (Int × Int)} (h : qs.length ≤ 1000000) : SeqAt.shaped (.list (qs.map pyV)) = true := by
  obtain ⟨d, h1, h2, h3⟩ := cmpb_data 64 (.lst (qs.map prV)) (cmpb_lst.mpr ⟨by rw [List.length_map]; exact h, prs_cmpb⟩)
  have e : d = .list (qs.map pyV) := by
    unfold IV.toD at h1
    rw [toDL_prs] at h1
    cases h1; rfl
  subst e
  simp only [SeqAt.shaped, h2, h3, decide_true, Bool.and_self]
theorem pr_shaped (p : Int × Int) : SeqAt.shaped (pyV p) = true := by
  obtain ⟨d, h1, h2, h3⟩ := cmpb_data 64 (prV p) rfl
  cases h1
  show SeqAt.shaped (.tuple [.int p.1, .int p.2]) = true
  simp only [SeqAt.shaped, h2, h3, decide_true, Bool.and_self]
theorem any_prs {qs : List (Int × Int)} {p : Int × Int} : ((qs.map pyV).any fun z => PyData.eqv z (pyV p)) = decide (p ∈ qs) := by
  rw [List.any_map, Bool.eq_iff_iff, List.any_eq_true, decide_eq_true_eq]
  constructor
  · rintro ⟨q, hq, h⟩
    have h : PyData.eqv (pyV q) (pyV p) = true := h
    rw [eqv_prs, decide_eq_true_eq] at h
    exact h ▸ hq
  · intro h
    exact ⟨p, h, show PyData.eqv (pyV p) (pyV p) = true by rw [eqv_prs]; simp⟩
theorem prV_data {st : Sto} {p : Int × Int} : (prV p).data st = some (pyV p) := rfl
theorem cell_data {st : Sto} {n : Nat} {qs : List (Int × Int)} (e : st[n]? = some (.lst (qs.map prV))) : (IV.cell n).data st = some (.list (qs.map pyV)) := by
  unfold IV.data
  simp only [e, toDL_prs, Option.map_some]
theorem o_inPr {st : Sto} {p : Int × Int} {n : Nat} {qs : List (Int × Int)} {Q : IV → Prop} (e : st[n]? = some (.lst (qs.map prV))) (hl : qs.length ≤ 1000000) (q : Q (.bl (decide (p ∈ qs)))) : ∃ v, inI st (prV p) (.cell n) = some v ∧ Q v := by
  refine ⟨_, ?_, q⟩
  unfold inI inB
  simp only [asSeq, lstOf, e, prV_data, cell_data e]
  rw [if_neg (by simp [prV, IV.flat]), if_pos ⟨pr_shaped p, prs_shaped hl⟩, any_prs]
  rfl
theorem map_eraseIdx {α β : Type} (f : α → β) : ∀ (l : List α) (j : Nat), (l.map f).eraseIdx j = (l.eraseIdx j).map f
  | [], _ => by simp
  | a :: l, 0 => by simp
  | a :: l, j + 1 => by simp [map_eraseIdx f l j]
theorem perm_eraseIdx {α : Type} : ∀ (l : List α) (j : Nat) (h : j < l.length), l.Perm (l[j] :: l.eraseIdx j)
  | a :: l, 0, _ => by simp
  | a :: l, j + 1, h => by
    simp only [List.getElem_cons_succ, List.eraseIdx_cons_succ]
    exact ((perm_eraseIdx l j (by simpa using h)).cons a).trans (List.Perm.swap _ _ _)
theorem we_remPr {st : Sto} {E : EX} {p : Int × Int} {n : Nat} {qs : List (Int × Int)} {Q : IV → Sto → Prop} (e : st[n]? = some (.lst (qs.map prV))) (hl : qs.length ≤ 1000000) (hp : p ∈ qs)
    (q : ∀ qs' : List (Int × Int), qs.Perm (p :: qs') → Q .non (st.set n (.lst (qs'.map prV)))) : we (remM (.cell n) [prV p]) st E Q := by
  have hany : ((qs.map pyV).any fun z => PyData.eqv z (pyV p)) = true := by rw [any_prs]; simpa using hp
  cases hf : (qs.map pyV).findIdx? (fun z => PyData.eqv z (pyV p)) with
  | none =>
    rw [List.findIdx?_eq_none_iff] at hf
    obtain ⟨z, hz, h⟩ := List.any_eq_true.mp hany
    rw [hf z hz] at h; cases h
  | some j =>
    obtain ⟨hj, h1, _⟩ := List.findIdx?_eq_some_iff_getElem.mp hf
    rw [List.length_map] at hj
    rw [List.getElem_map, eqv_prs, decide_eq_true_eq] at h1
    refine ⟨.val .non, st.set n (.lst ((qs.eraseIdx j).map prV)), ?_, q _ ?_⟩
    · unfold remM
      simp only [e, toDL_prs, prV_data]
      rw [if_pos ⟨prs_shaped hl, pr_shaped p⟩, hf]
      simp only
      rw [map_eraseIdx]
    · rw [← h1]
      exact perm_eraseIdx qs j hj
variable {st : Sto} {r b n : Int} {ps : List (Int × Int)}
theorem isIn255 (h : 0 ≤ n ∧ n < 256) : isIn 0 255 (.int n) = true := by simp [isIn]; omega
theorem r_tells (h : Ps r b ps) (hn : 0 ≤ n ∧ n < 256) : g_tells [objP r b ps, .int n] st = some (.val (.bl (decide (placeF r b n ∈ ps))), st) := by
  refine run_of (we_def (ls := [some (objP r b ps), some (.int n)]) rfl ?_)
  unfold m_tells
  obtain ⟨qs, hq, hql, hg⟩ := plc_of h
  walk_at "mk"
  refine we_run (r_print rfl) ?_
  rw [isIn255 hn]
  walk_at "mk"
  refine we_run (r_place h.r8 h.bits) ?_
  walk_at "mk"
  refine we_run (hg _) ?_
  refine o_inPr (app_get) (by omega) ?_
  walk_at "mk"
  refine close_pure rfl ⟨?_, by simp⟩ (by simp)
  congr 1
  rw [Bool.eq_iff_iff, decide_eq_true_eq, decide_eq_true_eq]
  exact hq.mem_iff
theorem r_tabOf {k : Nat} {qs : List (Int × Int)} {R B : Int} (e : st[k]? = some (.lst (qs.map prV))) (h : Ps R B qs) : g_table_of [.int R, .int B, .cell k] st = some (.val (objP R B qs), st) :=
  we_tabOf (v := .cell k) (k := some k) (by simp only [srcM, e]) e h.tb (by have := h.len; omega)
def gPr (r : Int) (p : Int × Int) : Int × Int := (p.1 + r * (p.2 % 2), p.2 / 2)
def sPr (h : Int) (p : Int × Int) : Int × Int := (p.1 % h, p.2 * 2 + p.1 / h)
def cPr (b : Int) (p : Int × Int) : Int × Int := (p.1, p.2 % 2 ^ b.toNat)
theorem pow_up {b : Int} (h : 0 < b) : (2 : Int) ^ b.toNat = 2 * 2 ^ (b - 1).toNat := by
  rw [show b.toNat = (b - 1).toNat + 1 by omega, Int.pow_succ]
  omega
theorem Ps.grown (h : Ps r b ps) (h1 : 0 < b) (h2 : r ≠ 8) : Ps (r * 2) (b - 1) (ps.map (gPr r)) where
  room := by have := h.room; omega
  bits := by have := h.bits; omega
  len := by rw [List.length_map]; exact h.len
  fst p hp := by
    obtain ⟨q, hq, rfl⟩ := List.mem_map.mp hp
    have := h.fst q hq
    have h3 := h.room
    show 0 ≤ q.1 + r * (q.2 % 2) ∧ q.1 + r * (q.2 % 2) < r * 2
    have e : q.2 % 2 = 0 ∨ q.2 % 2 = 1 := by omega
    rcases e with e | e <;> rw [e] <;> omega
  snd p hp := by
    obtain ⟨q, hq, rfl⟩ := List.mem_map.mp hp
    have := h.snd q hq
    rw [pow_up h1] at this
    show 0 ≤ q.2 / 2 ∧ q.2 / 2 < _
    omega
theorem Ps.shrunk (h : Ps r b ps) (h1 : b < 5) (h2 : r ≠ 1) : Ps (r / 2) (b + 1) (ps.map (sPr (r / 2))) where
  room := by have := h.room; omega
  bits := by have := h.bits; omega
  len := by rw [List.length_map]; exact h.len
  fst p hp := by
    obtain ⟨q, hq, rfl⟩ := List.mem_map.mp hp
    have h3 := h.room
    exact ⟨Int.emod_nonneg _ (by omega), Int.emod_lt_of_pos _ (by omega)⟩
  snd p hp := by
    obtain ⟨q, hq, rfl⟩ := List.mem_map.mp hp
    have h3 := h.snd q hq
    have h4 := h.fst q hq
    have h5 := h.room
    have h6 := h.bits
    have e := pow_up (b := b + 1) (by omega)
    rw [show b + 1 - 1 = b by omega] at e
    rw [e]
    show 0 ≤ q.2 * 2 + q.1 / (r / 2) ∧ q.2 * 2 + q.1 / (r / 2) < _
    have h7 : q.1 / (r / 2) = 0 ∨ q.1 / (r / 2) = 1 := by
      rcases h5 with rfl | rfl | rfl | rfl
      · exact absurd rfl h2
      all_goals
        simp only [Int.reduceDiv]
        omega
    rcases h7 with e | e <;> rw [e] <;> omega
theorem Ps.cut (h : Ps r b ps) (h1 : 0 < b) : Ps r (b - 1) (ps.map (cPr (b - 1))) where
  room := h.room
  bits := by have := h.bits; omega
  len := by rw [List.length_map]; exact h.len
  fst p hp := by
    obtain ⟨q, hq, rfl⟩ := List.mem_map.mp hp
    exact h.fst q hq
  snd p hp := by
    obtain ⟨q, hq, rfl⟩ := List.mem_map.mp hp
    have h2 := h.bits
    have := pow_pos5 (b := b - 1) (by omega)
    exact ⟨Int.emod_nonneg _ (by omega), Int.emod_lt_of_pos _ this.1⟩
theorem r_grown (h : Ps r b ps) (h1 : 0 < b) (h2 : r ≠ 8) : g_grown [objP r b ps] st = some (.val (objP (r * 2) (b - 1) (ps.map (gPr r))), st) := by
  refine run_of (we_def (ls := [some (objP r b ps), none, none, none, none]) rfl ?_)
  unfold m_grown
  obtain ⟨qs, hq, hql, hg⟩ := plc_of h
  have hp := h.grown h1 h2
  have e0 : PyData.eqv (.int b) (.int 0) = false := by simp [PyData.eqv]; omega
  have e8 : PyData.eqv (.int r) (.int 8) = false := by simp [PyData.eqv]; omega
  have r8 := h.r8
  walk_at "mk"
  rw [e0]
  walk_at "mk"
  rw [e8]
  walk_at "mk"
  refine we_run (hg _) ?_
  refine ⟨(qs.map prV, some st.length), by simp only [srcM, app_get], ?_⟩
  refine compL_map (as := qs) prV (fun _ => true) (fun p => prV (gPr r p)) app_get (fun p hp => ⟨_, rfl, by walk_at "mk"; exact ⟨rfl, rfl⟩, fun _ => ?_⟩) ?_
  · have hp2 := h.snd p (hq.mem_iff.mp hp)
    have := pow_pos5 h.bits
    walk_at "mk"
    exact ⟨rfl, rfl⟩
  rw [List.filter_eq_self.mpr fun _ _ => rfl]
  refine len_and (by rw [List.length_map]; omega) ?_
  walk_at "mk"
  have e : qs.map (fun p => prV (gPr r p)) = (qs.map (gPr r)).map prV := by rw [List.map_map]; rfl
  rw [e]
  have hq2 : (qs.map (gPr r)).Perm (ps.map (gPr r)) := hq.map _
  have hP := hp.perm hq2
  refine we_run (we_tabOf (k := none) rfl trivial hP.tb (by have := hP.len; omega)) ?_
  rw [rowsP_perm hq2]
  exact close_pure hp.pure ⟨rfl, by simp⟩ (by simp)
theorem r_shrunk (h : Ps r b ps) (h1 : b < 5) (h2 : r ≠ 1) : g_shrunk [objP r b ps] st = some (.val (objP (r / 2) (b + 1) (ps.map (sPr (r / 2)))), st) := by
  refine run_of (we_def (ls := [some (objP r b ps), none, none, none, none]) rfl ?_)
  unfold m_shrunk
  obtain ⟨qs, hq, hql, hg⟩ := plc_of h
  have hp := h.shrunk h1 h2
  have e0 : PyData.eqv (.int r) (.int 1) = false := by simp [PyData.eqv]; omega
  have e8 : PyData.eqv (.int b) (.int 5) = false := by simp [PyData.eqv]; omega
  have r8 := h.r8
  walk_at "mk"
  rw [e0]
  walk_at "mk"
  rw [e8]
  walk_at "mk"
  refine we_run (hg _) ?_
  refine ⟨(qs.map prV, some st.length), by simp only [srcM, app_get], ?_⟩
  refine compL_map (as := qs) prV (fun _ => true) (fun p => prV (sPr (r / 2) p)) app_get (fun p hp => ⟨_, rfl, by walk_at "mk"; exact ⟨rfl, rfl⟩, fun _ => ?_⟩) ?_
  · have hp2 := h.snd p (hq.mem_iff.mp hp)
    have := pow_pos5 h.bits
    walk_at "mk"
    exact ⟨rfl, rfl⟩
  rw [List.filter_eq_self.mpr fun _ _ => rfl]
  refine len_and (by rw [List.length_map]; omega) ?_
  walk_at "mk"
  have e : qs.map (fun p => prV (sPr (r / 2) p)) = (qs.map (sPr (r / 2))).map prV := by rw [List.map_map]; rfl
  rw [e]
  have hq2 : (qs.map (sPr (r / 2))).Perm (ps.map (sPr (r / 2))) := hq.map _
  have hP := hp.perm hq2
  refine we_run (we_tabOf (k := none) rfl trivial hP.tb (by have := hP.len; omega)) ?_
  rw [rowsP_perm hq2]
  exact close_pure hp.pure ⟨rfl, by simp⟩ (by simp)
theorem r_cut (h : Ps r b ps) (h1 : 0 < b) : g_cut [objP r b ps] st = some (.val (objP r (b - 1) (ps.map (cPr (b - 1)))), st) := by
  refine run_of (we_def (ls := [some (objP r b ps), none, none, none]) rfl ?_)
  unfold m_cut
  obtain ⟨qs, hq, hql, hg⟩ := plc_of h
  have hp := h.cut h1
  have e0 : PyData.eqv (.int b) (.int 0) = false := by simp [PyData.eqv]; omega
  have r8 := h.r8
  have b5 := h.bits
  walk_at "mk"
  rw [e0]
  walk_at "mk"
  refine we_run (hg _) ?_
  refine ⟨(qs.map prV, some st.length), by simp only [srcM, app_get], ?_⟩
  refine compL_map (as := qs) prV (fun _ => true) (fun p => prV (cPr (b - 1) p)) app_get (fun p hp => ⟨_, rfl, by walk_at "mk"; exact ⟨rfl, rfl⟩, fun _ => ?_⟩) ?_
  · have hp2 := h.snd p (hq.mem_iff.mp hp)
    have := pow_pos5 (b := b - 1) (by omega)
    walk_at "mk"
    refine o_shl (by omega) ?_
    refine o_mod this.1 ?_
    walk_at "mk"
    exact ⟨rfl, rfl⟩
  rw [List.filter_eq_self.mpr fun _ _ => rfl]
  refine len_and (by rw [List.length_map]; omega) ?_
  walk_at "mk"
  have e : qs.map (fun p => prV (cPr (b - 1) p)) = (qs.map (cPr (b - 1))).map prV := by rw [List.map_map]; rfl
  rw [e]
  have hq2 : (qs.map (cPr (b - 1))).Perm (ps.map (cPr (b - 1))) := hq.map _
  have hP := hp.perm hq2
  refine we_run (we_tabOf (k := none) rfl trivial hP.tb (by have := hP.len; omega)) ?_
  rw [rowsP_perm hq2]
  exact close_pure hp.pure ⟨rfl, by simp⟩ (by simp)
theorem int_eqv (i j : Int) : PyData.eqv (.int i) (.int j) = decide (i = j) := by rw [Bool.eq_iff_iff]; simp [PyData.eqv]
theorem r_fits {r' b' : Int} {os : List (Int × Int)} (h : Ps r b ps) (ho : Ps r' b' os) : g_fits [objP r b ps, objP r' b' os] st = some (.val (.bl (decide (r' = r ∧ b' = b ∧ ps.length + os.length ≤ 24))), st) := by
  refine run_of (we_def (ls := [some (objP r b ps), some (objP r' b' os)]) rfl ?_)
  unfold m_fits
  obtain ⟨qs, hq, hql, hg⟩ := plc_of h
  obtain ⟨zs, hz, hzl, hgz⟩ := plc_of ho
  walk_at "mk"
  refine ⟨.o "Table", true, rfl, by decide +kernel, ?_⟩
  walk_at "mk"
  rw [int_eqv]
  by_cases e1 : r' = r
  · rw [decide_eq_true e1]
    walk_at "mk"
    rw [int_eqv]
    by_cases e2 : b' = b
    · rw [decide_eq_true e2]
      walk_at "mk"
      refine we_run (hg _) ?_
      walk_at "mk"
      refine we_lenC app_get ?_
      walk_at "mk"
      refine we_run (hgz _) ?_
      walk_at "mk"
      refine we_lenC app_get ?_
      walk_at "mk"
      refine close_pure rfl ⟨?_, by simp⟩ (by simp)
      congr 1
      have l1 := hq.length_eq
      have l2 := hz.length_eq
      rw [Bool.eq_iff_iff]
      simp [e1, e2]
      omega
    · rw [decide_eq_false e2]
      walk_at "mk"
      exact close_len rfl ⟨by simp [e2], rfl⟩
  · rw [decide_eq_false e1]
    walk_at "mk"
    exact close_len rfl ⟨by simp [e1], rfl⟩
theorem o_addC {i j : Nat} {l m : List IV} {Q : IV → Prop} (e1 : st[i]? = some (.lst l)) (e2 : st[j]? = some (.lst m)) (h : l.length + m.length ≤ 16777216) (q : Q (.lst (l ++ m))) : ∃ v, addI st (.cell i) (.cell j) = some v ∧ Q v :=
  ⟨_, by simp only [addI, lstOf, e1, e2]; rw [if_pos h], q⟩
theorem Ps.app {os : List (Int × Int)} (h : Ps r b ps) (ho : Ps r b os) (hl : ps.length + os.length ≤ 24) : Ps r b (ps ++ os) where
  room := h.room
  bits := h.bits
  len := by rw [List.length_append]; exact hl
  fst p hp := (List.mem_append.mp hp).elim (h.fst p) (ho.fst p)
  snd p hp := (List.mem_append.mp hp).elim (h.snd p) (ho.snd p)
theorem r_joined {os : List (Int × Int)} (h : Ps r b ps) (ho : Ps r b os) (hl : ps.length + os.length ≤ 24) : g_joined [objP r b ps, objP r b os] st = some (.val (objP r b (ps ++ os)), st) := by
  refine run_of (we_def (ls := [some (objP r b ps), some (objP r b os)]) rfl ?_)
  unfold m_joined
  obtain ⟨qs, hq, hql, hg⟩ := plc_of h
  obtain ⟨zs, hz, hzl, hgz⟩ := plc_of ho
  walk_at "mk"
  refine we_run (r_fits h ho) ?_
  rw [decide_eq_true ⟨rfl, rfl, hl⟩]
  walk_at "mk"
  refine we_run (hg _) ?_
  walk_at "mk"
  refine we_run (hgz _) ?_
  refine o_addC (l := qs.map prV) (m := zs.map prV) (by rw [List.getElem?_append_left (by simp)]; exact app_get) app_get (by rw [List.length_map, List.length_map]; omega) ?_
  walk_at "mk"
  rw [← List.map_append]
  have hq2 : (qs ++ zs).Perm (ps ++ os) := hq.append hz
  have hp := h.app ho hl
  have hP := hp.perm hq2
  refine we_run (we_tabOf (k := none) rfl trivial hP.tb (by have := hP.len; omega)) ?_
  rw [rowsP_perm hq2]
  exact close_pure hp.pure ⟨rfl, by simp⟩ (by simp)
theorem Ps.place (h : Ps r b ps) (hl : ps.length < 24) : Ps r b (ps ++ [placeF r b n]) :=
  h.app (Ps.of (ns := [n]) h.room h.bits (by simp)) (by simp; omega)
theorem r_putt (h : Ps r b ps) (hl : ps.length < 24) (hn : 0 ≤ n ∧ n < 256) : g_putt [objP r b ps, .int n] st = some (.val (objP r b (ps ++ [placeF r b n])), st) := by
  refine run_of (we_def (ls := [some (objP r b ps), some (.int n)]) rfl ?_)
  unfold m_putt
  obtain ⟨qs, hq, hql, hg⟩ := plc_of h
  walk_at "mk"
  refine we_run (r_print rfl) ?_
  rw [isIn255 hn]
  walk_at "mk"
  refine we_run (hg _) ?_
  walk_at "mk"
  refine we_lenC app_get ?_
  walk_at "mk"
  rw [int_eqv, List.length_map, hq.length_eq, decide_eq_false (by omega)]
  walk_at "mk"
  refine we_run (hg _) ?_
  walk_at "mk"
  refine we_run (r_place h.r8 h.bits) ?_
  walk_at "mk"
  refine ⟨qs.map prV, [prV (placeF r b n)], by simp only [lstOf]; rw [app_get], rfl, by rw [List.length_map]; show qs.length + 1 ≤ _; omega, we_newF ?_⟩
  walk_at "mk"
  rw [show qs.map prV ++ [prV (placeF r b n)] = (qs ++ [placeF r b n]).map prV by simp]
  have hq2 : (qs ++ [placeF r b n]).Perm (ps ++ [placeF r b n]) := hq.append_right _
  have hp := h.place (n := n) hl
  have hP := hp.perm hq2
  refine we_run (we_tabOf (k := none) rfl trivial hP.tb (by have := hP.len; omega)) ?_
  rw [rowsP_perm hq2]
  exact close_pure hp.pure ⟨rfl, by simp⟩ (by simp)
theorem r_taken (h : Ps r b ps) (hn : 0 ≤ n ∧ n < 256) (hm : placeF r b n ∈ ps) : ∃ qs : List (Int × Int), ps.Perm (placeF r b n :: qs) ∧ g_taken [objP r b ps, .int n] st = some (.val (objP r b qs), st) := by
  obtain ⟨q1, q2, e⟩ := List.append_of_mem hm
  have hperm : ps.Perm (placeF r b n :: (q1 ++ q2)) := by rw [e]; exact List.perm_middle
  refine ⟨q1 ++ q2, hperm, ?_⟩
  refine run_of (we_def (ls := [some (objP r b ps), some (.int n), none]) rfl ?_)
  unfold m_taken
  obtain ⟨qs, hq, hql, hg⟩ := plc_of h
  walk_at "mk"
  refine we_run (r_tells h hn) ?_
  rw [decide_eq_true hm]
  walk_at "mk"
  refine we_run (hg _) ?_
  walk_at "mk"
  refine ⟨st.length, _, rfl, app_get, ?_⟩
  walk_at "mk"
  refine we_run (r_place h.r8 h.bits) ?_
  walk_at "mk"
  refine we_remPr app_get (by omega) (hq.mem_iff.mpr hm) fun qs' hq' => ?_
  walk_at "mk"
  have hq2 : qs'.Perm (q1 ++ q2) := List.Perm.cons_inv ((hq'.symm.trans hq).trans hperm)
  have hsub : ∀ p ∈ q1 ++ q2, p ∈ ps := fun p hp => hperm.mem_iff.mpr (List.mem_cons_of_mem _ hp)
  have hl := hperm.length_eq
  have hp : Ps r b (q1 ++ q2) := ⟨h.room, h.bits, by have := h.len; simp only [List.length_cons] at hl; omega, fun p hp => h.fst p (hsub p hp), fun p hp => h.snd p (hsub p hp)⟩
  have hP := hp.perm hq2
  refine we_run (r_tabOf (set_get app_get) hP) ?_
  rw [objP_perm hq2]
  refine close_pure hp.pure ⟨rfl, ?_⟩ (by simp)
  simp
theorem place_eq {r b n m : Int} (hr : r = 1 ∨ r = 2 ∨ r = 4 ∨ r = 8) (hb : 0 ≤ b ∧ b ≤ 5) : placeF r b n = placeF r b m ↔ n % (r * 2 ^ b.toNat) = m % (r * 2 ^ b.toNat) := by
  have hb' : b = 0 ∨ b = 1 ∨ b = 2 ∨ b = 3 ∨ b = 4 ∨ b = 5 := by omega
  unfold placeF
  rw [Prod.mk.injEq]
  rcases hr with rfl | rfl | rfl | rfl <;> rcases hb' with rfl | rfl | rfl | rfl | rfl | rfl <;> (try simp only [Int.reduceToNat, Int.reducePow, Int.reduceMul, Int.reduceDiv, Int.reduceSub, Int.reduceAdd]) <;> (try dsimp only) <;> omega
theorem place_mem {r b n : Int} {ns : List Int} (hr : r = 1 ∨ r = 2 ∨ r = 4 ∨ r = 8) (hb : 0 ≤ b ∧ b ≤ 5) : placeF r b n ∈ ns.map (placeF r b) ↔ n % (r * 2 ^ b.toNat) ∈ ns.map (· % (r * 2 ^ b.toNat)) := by
  rw [List.mem_map, List.mem_map]
  exact exists_congr fun m => and_congr_right fun _ => place_eq hr hb
theorem gPr_place {r b n : Int} (hr : r = 1 ∨ r = 2 ∨ r = 4 ∨ r = 8) (hb : 0 ≤ b ∧ b ≤ 5) (h1 : 0 < b) (h2 : r ≠ 8) : gPr r (placeF r b n) = placeF (r * 2) (b - 1) n := by
  have hb' : b = 1 ∨ b = 2 ∨ b = 3 ∨ b = 4 ∨ b = 5 := by omega
  unfold placeF gPr
  rw [Prod.mk.injEq]
  rcases hr with rfl | rfl | rfl | rfl <;> rcases hb' with rfl | rfl | rfl | rfl | rfl <;> (try simp only [Int.reduceToNat, Int.reducePow, Int.reduceMul, Int.reduceDiv, Int.reduceSub, Int.reduceAdd]) <;> (try dsimp only) <;> omega
theorem sPr_place {r b n : Int} (hr : r = 1 ∨ r = 2 ∨ r = 4 ∨ r = 8) (hb : 0 ≤ b ∧ b ≤ 5) (h1 : b < 5) (h2 : r ≠ 1) : sPr (r / 2) (placeF r b n) = placeF (r / 2) (b + 1) n := by
  have hb' : b = 0 ∨ b = 1 ∨ b = 2 ∨ b = 3 ∨ b = 4 := by omega
  unfold placeF sPr
  rw [Prod.mk.injEq]
  rcases hr with rfl | rfl | rfl | rfl <;> rcases hb' with rfl | rfl | rfl | rfl | rfl <;> (try simp only [Int.reduceToNat, Int.reducePow, Int.reduceMul, Int.reduceDiv, Int.reduceSub, Int.reduceAdd]) <;> (try dsimp only) <;> omega
theorem cPr_place {r b n : Int} (hr : r = 1 ∨ r = 2 ∨ r = 4 ∨ r = 8) (hb : 0 ≤ b ∧ b ≤ 5) (h1 : 0 < b) : cPr (b - 1) (placeF r b n) = placeF r (b - 1) n := by
  have hb' : b = 1 ∨ b = 2 ∨ b = 3 ∨ b = 4 ∨ b = 5 := by omega
  unfold placeF cPr
  rw [Prod.mk.injEq]
  rcases hr with rfl | rfl | rfl | rfl <;> rcases hb' with rfl | rfl | rfl | rfl | rfl <;> (try simp only [Int.reduceToNat, Int.reducePow, Int.reduceMul, Int.reduceDiv, Int.reduceSub, Int.reduceAdd]) <;> (try dsimp only) <;> refine ⟨trivial, ?_⟩ <;> omega
end Law
end
section
set_option maxHeartbeats 2000000
namespace Law
open PySem L2 MK
local macro_rules | `(tactic| walk_at "mk1") => `(tactic| first
  | with_reducible refine Rule.ok ?_ | ((with_reducible refine' we_var ?hh ?_); (case hh => rfl)) | with_reducible refine eq_and rfl ?_ | ((with_reducible refine len_and ?hh ?_); (case hh => simp; done)) | with_reducible refine o_mod (by omega) ?_ | with_reducible refine o_div (by omega) ?_
  | with_reducible refine o_mul (by omega) (by omega) ?_ | ((with_reducible refine' o_ixC ?hh ?h2 ?_); (case hh => assumption); (case h2 => rfl)) | ((with_reducible refine' o_ixS ?hh ?_); (case hh => assumption)) | ((with_reducible refine' o_ixT ?hh ?_); (case hh => assumption))
  | ((with_reducible refine' o_ixL ?hh ?_); (case hh => assumption)) | ((with_reducible refine' o_ixT ?hh ?_); (case hh => rfl)) | ((with_reducible refine' o_ixL ?hh ?_); (case hh => rfl)) | with_reducible refine o_pow (by decide) (by decide) ?_
  | ((with_reducible refine' we_lenC ?hh ?_); (case hh => assumption)) | ((with_reducible refine' we_tupleC ?hh ?_); (case hh => assumption)) | (refine way_t rfl ?_) | (refine way_f rfl ?_) | ((refine' Exists.intro _ (And.intro ?hh ?_)); (case hh => rfl)))
local macro_rules | `(tactic| walk_at "mk") => `(tactic| repeat walk_at "mk1")
variable {st : Sto} {r b n : Int} {ps : List (Int × Int)}
theorem x_grown (hr : 1 ≤ r ∧ r ≤ 8) (h : b = 0 ∨ r = 8) : we (g_grown [objP r b ps]) st (fun c f v st' => st' = st ∧ c = "Undefined" ∧ f = "what" ∧ v = .str "bits") fun _ _ => False := by
  refine we_def (ls := [some (objP r b ps), none, none, none, none]) rfl ?_
  unfold m_grown
  walk_at "mk"
  rw [int_eqv]
  by_cases e : b = 0
  · rw [decide_eq_true e]
    walk_at "mk"
    exact .inl ⟨rfl, rfl, rfl, rfl, rfl⟩
  · rw [decide_eq_false e]
    walk_at "mk"
    rw [int_eqv, decide_eq_true (h.resolve_left e)]
    walk_at "mk"
    exact .inl ⟨rfl, rfl, rfl, rfl, rfl⟩
theorem x_shrunk (h : r = 1 ∨ b = 5) : we (g_shrunk [objP r b ps]) st (fun c f v st' => st' = st ∧ c = "Undefined" ∧ f = "what" ∧ v = .str "rooms") fun _ _ => False := by
  refine we_def (ls := [some (objP r b ps), none, none, none, none]) rfl ?_
  unfold m_shrunk
  walk_at "mk"
  rw [int_eqv]
  by_cases e : r = 1
  · rw [decide_eq_true e]
    walk_at "mk"
    exact .inl ⟨rfl, rfl, rfl, rfl, rfl⟩
  · rw [decide_eq_false e]
    walk_at "mk"
    rw [int_eqv, decide_eq_true (h.resolve_left e)]
    walk_at "mk"
    exact .inl ⟨rfl, rfl, rfl, rfl, rfl⟩
theorem x_cut (h : b = 0) : we (g_cut [objP r b ps]) st (fun c f v st' => st' = st ∧ c = "Undefined" ∧ f = "what" ∧ v = .str "bits") fun _ _ => False := by
  refine we_def (ls := [some (objP r b ps), none, none, none]) rfl ?_
  unfold m_cut
  walk_at "mk"
  rw [int_eqv, decide_eq_true h]
  walk_at "mk"
  exact .inl ⟨rfl, rfl, rfl, rfl, rfl⟩
theorem x_tells {v : IV} (hv : dat v = true) (h : isIn 0 255 v = false) : we (g_tells [objP r b ps, v]) st (fun c f w st' => st' = st ∧ c = "InvalidNumber" ∧ f = "value" ∧ w = v) fun _ _ => False := by
  refine we_def (ls := [some (objP r b ps), some v]) rfl ?_
  unfold m_tells
  walk_at "mk"
  refine we_run (r_print hv) ?_
  rw [h]
  walk_at "mk"
  exact .inl ⟨rfl, rfl, rfl, rfl, rfl⟩
theorem r_ltable {ns : List Int} {k : Nat} (hb : BoxAt st k) (hr : r = 1 ∨ r = 2 ∨ r = 4 ∨ r = 8) (hbb : 0 ≤ b ∧ b ≤ 5) (hl : ns.length ≤ 24) (h : ∀ x ∈ ns, 0 ≤ x ∧ x < 256) :
    we (g_law_table [.cell k, .int r, .int b, tupI ns]) st noX fun v st' => v = objP r b (ns.map (placeF r b)) ∧ Only1 k st st' ∧ BoxAt st' k := by
  refine we_def (ls := [some (.cell k), some (.int r), some (.int b), some (tupI ns)]) rfl ?_
  unfold m_law_table
  have P := Ps.of (ns := ns) hr hbb hl
  walk_at "mk"
  refine we_nox (r_take hb (by decide) (by decide)) ?_
  rintro v s1 ⟨q, rfl, q0, q1, o1, hb1⟩
  walk_at "mk"
  refine ⟨fun _ => ?_, fun _ => ?_⟩
  · walk_at "mk"
    refine we_run (r_ptable hr hbb hl h) ?_
    exact close_len o1.len ⟨rfl, o1, hb1⟩
  · walk_at "mk"
    refine we_mkT P.tb ?_
    walk_at "mk"
    refine we_run (r_rows_of hr hbb (by omega)) ?_
    walk_at "mk"
    exact ⟨rfl, close_len o1.len ⟨rfl, o1, hb1⟩⟩
def tellB (r b : Int) (ns : List Int) (n : Int) : Bool := decide (n % (r * 2 ^ b.toNat) ∈ ns.map (· % (r * 2 ^ b.toNat)))
theorem r_tellsN {ns : List Int} (hr : r = 1 ∨ r = 2 ∨ r = 4 ∨ r = 8) (hb : 0 ≤ b ∧ b ≤ 5) (hl : ns.length ≤ 24) (hn : 0 ≤ n ∧ n < 256) : g_tells [objP r b (ns.map (placeF r b)), .int n] st = some (.val (.bl (tellB r b ns n)), st) := by
  have e : decide (placeF r b n ∈ ns.map (placeF r b)) = tellB r b ns n := by
    unfold tellB
    rw [Bool.eq_iff_iff, decide_eq_true_eq, decide_eq_true_eq]
    exact place_mem hr hb
  rw [r_tells (Ps.of hr hb hl) hn, e]
theorem r_refused {v : IV} (hv : dat v = true) (h : isIn 0 255 v = false) : g_law_refused [objP r b ps, v] st = some (.val (.tup [.str "number", v]), st) := by
  refine run_of (we_def (ls := [some (objP r b ps), some v, none]) rfl ?_)
  unfold m_law_refused
  walk_at "mk"
  refine we_monoX (x_tells hv h) ?_ fun _ _ z => z.elim
  rintro c' f w st' ⟨rfl, rfl, rfl, rfl⟩
  refine we_clR (w := .tup [.str "number", w]) (st1 := st') (by decide +kernel) (fun a C d => run_of ?_) ?_
  · walk_at "mk"
    exact ⟨rfl, rfl⟩
  · exact close_len rfl ⟨rfl, rfl⟩
def turnV (kind r b : Int) (ns : List Int) : IV :=
  if kind = 0 then (if b = 0 ∨ r = 8 then .str "bits" else objP (r * 2) (b - 1) (ns.map (placeF (r * 2) (b - 1))))
  else if kind = 1 then (if r = 1 ∨ b = 5 then .str "rooms" else objP (r / 2) (b + 1) (ns.map (placeF (r / 2) (b + 1))))
  else (if b = 0 then .str "bits" else objP r (b - 1) (ns.map (placeF r (b - 1))))
theorem r_turned {ns : List Int} {kind : Int} (hk : kind = 0 ∨ kind = 1 ∨ kind = 2) (hr : r = 1 ∨ r = 2 ∨ r = 4 ∨ r = 8) (hb : 0 ≤ b ∧ b ≤ 5) (hl : ns.length ≤ 24) :
    g_law_turned [.int kind, objP r b (ns.map (placeF r b))] st = some (.val (turnV kind r b ns), st) := by
  refine run_of (we_def (ls := [some (.int kind), some (objP r b (ns.map (placeF r b))), none]) rfl ?_)
  unfold m_law_turned
  have P := Ps.of (ns := ns) hr hb hl
  rcases hk with rfl | rfl | rfl
  · walk_at "mk"
    by_cases h : b = 0 ∨ r = 8
    · refine we_monoX (x_grown (by omega) h) ?_ fun _ _ z => z.elim
      rintro c' f w st' ⟨rfl, rfl, rfl, rfl⟩
      refine we_clR (w := .str "bits") (st1 := st') (by decide +kernel) (fun a C d => run_of ?_) ?_
      · walk_at "mk"
        exact ⟨rfl, rfl⟩
      · exact close_len rfl ⟨by unfold turnV; rw [if_pos rfl, if_pos h], rfl⟩
    · refine we_run (r_grown P (by omega) (by omega)) ?_
      have e : (ns.map (placeF r b)).map (gPr r) = ns.map (placeF (r * 2) (b - 1)) := by
        rw [List.map_map]
        exact List.map_congr_left fun n _ => gPr_place hr hb (by omega) (by omega)
      rw [e]
      exact close_len rfl ⟨by unfold turnV; rw [if_pos rfl, if_neg h], rfl⟩
  · walk_at "mk"
    by_cases h : r = 1 ∨ b = 5
    · refine we_monoX (x_shrunk h) ?_ fun _ _ z => z.elim
      rintro c' f w st' ⟨rfl, rfl, rfl, rfl⟩
      refine we_clR (w := .str "rooms") (st1 := st') (by decide +kernel) (fun a C d => run_of ?_) ?_
      · walk_at "mk"
        exact ⟨rfl, rfl⟩
      · exact close_len rfl ⟨by unfold turnV; rw [if_neg (by decide), if_pos rfl, if_pos h], rfl⟩
    · refine we_run (r_shrunk P (by omega) (by omega)) ?_
      have e : (ns.map (placeF r b)).map (sPr (r / 2)) = ns.map (placeF (r / 2) (b + 1)) := by
        rw [List.map_map]
        exact List.map_congr_left fun n _ => sPr_place hr hb (by omega) (by omega)
      rw [e]
      exact close_len rfl ⟨by unfold turnV; rw [if_neg (by decide), if_pos rfl, if_neg h], rfl⟩
  · walk_at "mk"
    by_cases h : b = 0
    · refine we_monoX (x_cut h) ?_ fun _ _ z => z.elim
      rintro c' f w st' ⟨rfl, rfl, rfl, rfl⟩
      refine we_clR (w := .str "bits") (st1 := st') (by decide +kernel) (fun a C d => run_of ?_) ?_
      · walk_at "mk"
        exact ⟨rfl, rfl⟩
      · exact close_len rfl ⟨by unfold turnV; rw [if_neg (by decide), if_neg (by decide), if_pos h], rfl⟩
    · refine we_run (r_cut P (by omega)) ?_
      have e : (ns.map (placeF r b)).map (cPr (b - 1)) = ns.map (placeF r (b - 1)) := by
        rw [List.map_map]
        exact List.map_congr_left fun n _ => cPr_place hr hb (by omega)
      rw [e]
      exact close_len rfl ⟨by unfold turnV; rw [if_neg (by decide), if_neg (by decide), if_neg h], rfl⟩
end Law
end
section
set_option maxHeartbeats 2000000
namespace Law
open PySem L2 MK
local macro_rules | `(tactic| walk_at "mk1") => `(tactic| first
  | with_reducible refine Rule.ok ?_ | ((with_reducible refine' we_var ?hh ?_); (case hh => rfl)) | with_reducible refine eq_and rfl ?_ | ((with_reducible refine len_and ?hh ?_); (case hh => simp; done)) | with_reducible refine o_mod (by omega) ?_ | with_reducible refine o_div (by omega) ?_
  | with_reducible refine o_mul (by omega) (by omega) ?_ | ((with_reducible refine' o_ixC ?hh ?h2 ?_); (case hh => assumption); (case h2 => rfl)) | ((with_reducible refine' o_ixS ?hh ?_); (case hh => assumption)) | ((with_reducible refine' o_ixT ?hh ?_); (case hh => assumption))
  | ((with_reducible refine' o_ixL ?hh ?_); (case hh => assumption)) | ((with_reducible refine' o_ixT ?hh ?_); (case hh => rfl)) | ((with_reducible refine' o_ixL ?hh ?_); (case hh => rfl)) | with_reducible refine o_pow (by decide) (by decide) ?_
  | ((with_reducible refine' we_lenC ?hh ?_); (case hh => assumption)) | ((with_reducible refine' we_tupleC ?hh ?_); (case hh => assumption)) | (refine way_t rfl ?_) | (refine way_f rfl ?_) | ((refine' Exists.intro _ (And.intro ?hh ?_)); (case hh => rfl)))
local macro_rules | `(tactic| walk_at "mk") => `(tactic| repeat walk_at "mk1")
def toldV31 (r b : Int) (ns : List Int) : IV := .lst ((rngL 256).map fun n => .bl (tellB r b ns n))
theorem told31_cmpb {r b : Int} {ns : List Int} : cmpb 64 (toldV31 r b ns) = true := cmpb_lst.mpr ⟨by rw [List.length_map, rngL_len]; decide, fun v hv => by
  obtain ⟨n, _, rfl⟩ := List.mem_map.mp hv
  rfl⟩
theorem rng256 : rangeI 0 (Int.toNat 256) = (rngL 256).map IV.int := rangeI_rng
theorem wide_eq {r b : Int} (hr : r = 1 ∨ r = 2 ∨ r = 4 ∨ r = 8) (hb : 0 ≤ b ∧ b ≤ 5) : 0 < r * 2 ^ b.toNat ∧ r * 2 ^ b.toNat ≤ 256 := by
  have hb' : b = 0 ∨ b = 1 ∨ b = 2 ∨ b = 3 ∨ b = 4 ∨ b = 5 := by omega
  rcases hr with rfl | rfl | rfl | rfl <;> rcases hb' with rfl | rfl | rfl | rfl | rfl | rfl <;> decide
theorem told31_at {r b : Int} {ns : List Int} {n : Int} (h : 0 ≤ n ∧ n < 256) : atI ((rngL 256).map fun n => IV.bl (tellB r b ns n)) n = some (.bl (tellB r b ns n)) := by
  refine atI_get h.1 ?_
  unfold rngL
  rw [List.map_map, List.getElem?_map, List.getElem?_range (by omega)]
  simp [show max n 0 = n by omega]
noncomputable def kinds31 : ME := mLst false (mCons (mTup (mCons (mC (.int 0)) (mCons (mC (.str "bits")) (mCons (mOrV (m2 (eqI) (mVar 3) (mC (.int 0))) (m2 (eqI) (mVar 2) (mC (.int 8)))) (mNil))))) (mCons (mTup (mCons (mC (.int 1)) (mCons (mC (.str "rooms")) (mCons (mOrV (m2 (eqI) (mVar 2) (mC (.int 1))) (m2 (eqI) (mVar 3) (mC (.int 5)))) (mNil))))) (mNil)))
def kinds31V (r b : Int) : List IV := [.tup [.int 0, .str "bits", .bl (decide (b = 0 ∨ r = 8))], .tup [.int 1, .str "rooms", .bl (decide (r = 1 ∨ b = 5))]]
theorem or_ints {st : Sto} {ls : MK.Loc} {i j : Nat} {x y a c : Int} (hi : ls[i]? = some (some (.int x))) (hj : ls[j]? = some (some (.int y))) :
    (mOrV (m2 eqI (mVar i) (mC (.int a))) (m2 eqI (mVar j) (mC (.int c)))) ls st = some (.val (.bl (decide (x = a ∨ y = c))), st) := by
  refine run_of (we_orV (we_m2 (we_var hi (we_c ⟨.bl (PyData.eqv (.int x) (.int a)), rfl, _, rfl, ?_, ?_⟩))))
  · intro h
    rw [int_eqv, decide_eq_true_eq] at h
    rw [int_eqv, decide_eq_true h, decide_eq_true (.inl h)]
    exact ⟨rfl, rfl⟩
  · intro h
    rw [int_eqv, decide_eq_false_iff_not] at h
    refine we_m2 (we_var hj (we_c ⟨.bl (PyData.eqv (.int y) (.int c)), rfl, ?_, rfl⟩))
    rw [int_eqv]
    congr 1
    rw [Bool.eq_iff_iff]
    simp [h]
theorem r_kinds31 {st : Sto} {ls : MK.Loc} {r b : Int} (h2 : ls[2]? = some (some (.int r))) (h3 : ls[3]? = some (some (.int b))) : kinds31 ls st = some (.val (.lst (kinds31V r b)), st) := by
  have key : we (kinds31 ls) st noX fun v st' => v = .lst (kinds31V r b) ∧ st' = st := by
    unfold kinds31 kinds31V
    refine we_lst (we_cons (we_tup (we_cons (we_c (we_cons (we_c (we_cons (we_run (or_ints h3 h2) (we_nil ?_)))))))))
    refine ⟨by simp, we_cons (we_tup (we_cons (we_c (we_cons (we_c (we_cons (we_run (or_ints h2 h3) (we_nil ?_))))))))⟩
    refine ⟨by simp, we_nil ⟨by simp, we_newF ⟨rfl, rfl⟩⟩⟩
  exact run_of key
theorem tell_grown {r b : Int} {ns : List Int} (h : 0 < b) : tellB (r * 2) (b - 1) ns = tellB r b ns := by
  unfold tellB
  rw [pow_up h, Int.mul_assoc]
theorem tell_shrunk {r b : Int} {ns : List Int} (hr : r = 1 ∨ r = 2 ∨ r = 4 ∨ r = 8) (h1 : r ≠ 1) (h : 0 ≤ b) : tellB (r / 2) (b + 1) ns = tellB r b ns := by
  have e := tell_grown (r := r / 2) (b := b + 1) (ns := ns) (by omega)
  rw [← e, show r / 2 * 2 = r by omega, show b + 1 - 1 = b by omega]
theorem tup2_eqv {a b c d : Int} (h1 : a = c) (h2 : b = d) : PyData.eqv (.tuple [.int a, .int b]) (.tuple [.int c, .int d]) = true := by
  subst h1 h2
  have := eqv_prs (a, b) (a, b)
  rw [decide_eq_true rfl] at this
  exact this
theorem cut_drop1 {a : IV} {l : List IV} : cutI (a :: l) (some 1) none = l := by
  unfold cutI
  have e1 : HT.sIx (a :: l).length 0 (some 1) = 1 := by
    have e : HT.sIx (a :: l).length 0 (some 1) = min (Int.toNat 1) (l.length + 1) := by
      show (if (1 : Int) < 0 then ((1 : Int) + ((l.length + 1 : Nat) : Int)).toNat else min (Int.toNat 1) (l.length + 1)) = _
      rw [if_neg (by decide)]
    rw [e, show Int.toNat 1 = 1 from rfl]
    omega
  have e2 : HT.sIx (a :: l).length (a :: l).length none = (a :: l).length := rfl
  rw [e1, e2]
  simp
theorem BoxAt.only {st st' : Sto} {n m : Nat} (h : BoxAt st n) (o : Only1 m st st') (hn : n ≠ m) : BoxAt st' n := by
  obtain ⟨a, c, e, h⟩ := h
  exact ⟨a, c, (o.ne _ hn).trans e, h⟩
theorem BoxAt.grow {st st' : Sto} {n : Nat} (h : BoxAt st n) (g : Grow st st') : BoxAt st' n := by
  obtain ⟨a, c, e, h⟩ := h
  exact ⟨a, c, (g.old _ (List.getElem?_eq_some_iff.mp e).1).trans e, h⟩
theorem r_law (ns : List Int) (hl : ns.length ≤ 63) : we (g_law [.scr (ns.map .int)]) [] noX fun v _ => v = .bl true := by
  refine we_def (ls := [some (.scr (ns.map .int)), none, none, none, none, none, none, none, none, none, none, none, none, none, none, none, none, none, none, none, none]) rfl ?_
  unfold m_law
  walk_at "mk"
  refine we_nox (r_box hl (by decide) (by decide)) ?_
  rintro v s1 ⟨n, rfl, rfl, gr, hlen, hb⟩
  walk_at "mk"
  refine we_nox (r_pick hb SeqIn.lst (by simp) (by simp)) ?_
  rintro v s2 ⟨hv, o2, hb2⟩
  obtain ⟨r, rfl, hr⟩ : ∃ r : Int, v = .int r ∧ (r = 1 ∨ r = 2 ∨ r = 4 ∨ r = 8) := by
    simp only [List.mem_cons, List.not_mem_nil, or_false] at hv
    rcases hv with rfl | rfl | rfl | rfl <;> exact ⟨_, rfl, by decide⟩
  walk_at "mk"
  refine we_nox (r_take hb2 (by decide) (by decide)) ?_
  rintro v s3 ⟨b, rfl, b0, b1, o3, hb3⟩
  have hbb : 0 ≤ b ∧ b ≤ 5 := ⟨b0, by omega⟩
  walk_at "mk"
  refine we_nox (r_box hl (by decide) (by decide)) ?_
  rintro v s4 ⟨n4, rfl, rfl, gr4, hlen4, hb4⟩
  walk_at "mk"
  refine we_nox (r_prints hb4 (by decide)) ?_
  rintro v s5 ⟨ps, rfl, hps, hpx, o5, hb5⟩
  have hpl : ps.length ≤ 24 := by omega
  have hb50 : BoxAt s5 0 := (hb3.grow gr4).only o5 (by have := hb3.lt; omega)
  walk_at "mk"
  refine we_nox (r_ltable hb50 hr hbb hpl hpx) ?_
  rintro v s6 ⟨rfl, o6, hb6⟩
  have p5 := pow_pos5 hbb
  have hw := wide_eq hr hbb
  walk_at "mk"
  refine we_run (r_power hbb) ?_
  walk_at "mk"
  generalize hW : r * 2 ^ b.toNat = W at hw
  refine compL_map (as := ps) .int (fun _ => true) (fun n => .int (n % W)) trivial (fun n hn => ⟨_, rfl, by walk_at "mk"; exact ⟨rfl, rfl⟩, fun _ => ?_⟩) ?_
  · walk_at "mk"
    exact ⟨rfl, rfl⟩
  rw [List.filter_eq_self.mpr fun _ _ => rfl]
  refine len_and (by rw [List.length_map]; omega) ?_
  walk_at "mk"
  rw [show ps.map (fun n => IV.int (n % W)) = (ps.map (· % W)).map IV.int by rw [List.map_map]; rfl]
  refine ⟨by decide, ?_⟩
  rw [rng256]
  refine compL_map (as := rngL 256) .int (fun _ => true) (fun n => .bl (tellB r b ps n)) trivial (fun n hn => ⟨_, rfl, by walk_at "mk"; exact ⟨rfl, rfl⟩, fun _ => ?_⟩) ?_
  · walk_at "mk"
    exact we_run (r_tellsN hr hbb hpl (rngL_mem.mp hn)) ⟨rfl, rfl⟩
  rw [List.filter_eq_self.mpr fun _ _ => rfl]
  refine len_and (by rw [List.length_map, rngL_len]; decide) ?_
  walk_at "mk"
  rw [show IV.lst ((rngL 256).map fun n => .bl (tellB r b ps n)) = toldV31 r b ps from rfl]
  refine ⟨by decide, ?_⟩
  rw [rng256]
  have hT : ∀ ns n, tellB r b ns n = decide (n % W ∈ ns.map (· % W)) := fun ns n => by unfold tellB; rw [hW]
  refine compL_map (as := rngL 256) .int (fun _ => false) .int trivial (fun n hn => ⟨_, rfl, ?_, fun h => by cases h⟩) ?_
  · have hn := rngL_mem.mp hn
    walk_at "mk"
    refine o_ixL (told31_at hn) ?_
    walk_at "mk"
    refine o_inL ?_
    walk_at "mk"
    refine we_run r_is_due ?_
    rw [← hT, beq_self_eq_true]
    walk_at "mk"
    exact ⟨rfl, rfl⟩
  rw [show (rngL 256).filter (fun _ => false) = [] from filter_none fun _ _ => rfl]
  refine len_and (by decide) ?_
  rw [show (mLst false (mCons (mTup (mCons (mC (.int 0)) (mCons (mC (.str "bits")) (mCons (mOrV (m2 (eqI) (mVar 3) (mC (.int 0))) (m2 (eqI) (mVar 2) (mC (.int 8)))) (mNil))))) (mCons (mTup (mCons (mC (.int 1)) (mCons (mC (.str "rooms")) (mCons (mOrV (m2 (eqI) (mVar 2) (mC (.int 1))) (m2 (eqI) (mVar 3) (mC (.int 5)))) (mNil))))) (mNil)))) = kinds31 from rfl]
  generalize hX : kinds31 = X
  walk_at "mk"
  rw [← hX]
  refine we_run (r_kinds31 (r := r) (b := b) rfl rfl) ?_
  walk_at "mk"
  refine forL_inv (fun q ls s => s = s6 ∧ (∀ v ∈ q, v = .tup [.int 0, .str "bits", .bl (decide (b = 0 ∨ r = 8))] ∨ v = .tup [.int 1, .str "rooms", .bl (decide (r = 1 ∨ b = 5))]) ∧ ∃ x9 x10 x11 x12, ls = [some (.scr (ns.map .int)), some (.cell 0), some (.int r), some (.int b), some (tupI ps), some (objP r b (ps.map (placeF r b))), some (.int W), some (.lst ((ps.map (· % W)).map .int)), some (toldV31 r b ps), x9, x10, x11, x12, none, none, none, none, none, none, none, none]) ?_ ?_ _ _ _ ⟨rfl, ?_, none, none, none, none, rfl⟩
  rotate_left 2
  · intro v hv
    simpa [kinds31V] using hv
  · rintro ls s ⟨rfl, _, x9, x10, x11, x12, rfl⟩
    refine ⟨trivial, ?_⟩
    walk_at "mk"
    refine we_nox (r_box hl (by decide) (by decide)) ?_
    rintro v s7 ⟨n7, rfl, rfl, gr7, hlen7, hb7⟩
    walk_at "mk"
    rw [List.length_map]
    refine we_nox (r_prints hb7 (by omega)) ?_
    rintro v s8 ⟨qs, rfl, hqs, hqx, o8, hb8⟩
    have hb80 : BoxAt s8 0 := (hb6.grow gr7).only o8 (by have := hb6.lt; omega)
    have hsum : ps.length + qs.length ≤ 24 := by omega
    walk_at "mk"
    refine we_nox (r_ltable hb80 hr hbb (by omega) hqx) ?_
    rintro v s9 ⟨rfl, o9, hb9⟩
    walk_at "mk"
    refine we_run (r_joined (Ps.of hr hbb hpl) (Ps.of hr hbb (by omega)) (by rw [List.length_map, List.length_map]; exact hsum)) ?_
    rw [← List.map_append]
    walk_at "mk"
    refine o_addT (by rw [List.length_map, List.length_map]; omega) ?_
    rw [← List.map_append]
    refine ⟨_, rfl, ?_⟩
    refine compL_map (as := ps ++ qs) .int (fun _ => true) (fun n => .int (n % W)) trivial (fun n hn => ⟨_, rfl, by walk_at "mk"; exact ⟨rfl, rfl⟩, fun _ => ?_⟩) ?_
    · walk_at "mk"
      exact ⟨rfl, rfl⟩
    rw [List.filter_eq_self.mpr fun _ _ => rfl]
    refine len_and (by simp; omega) ?_
    walk_at "mk"
    rw [show (ps ++ qs).map (fun n => IV.int (n % W)) = ((ps ++ qs).map (· % W)).map IV.int by rw [List.map_map]; rfl]
    refine ⟨by decide, ?_⟩
    rw [rng256]
    refine compL_map (as := rngL 256) .int (fun _ => false) .int trivial (fun n hn => ⟨_, rfl, ?_, fun h => by cases h⟩) ?_
    · have hn := rngL_mem.mp hn
      walk_at "mk"
      refine we_run (r_tellsN hr hbb (by rw [List.length_append]; exact hsum) hn) ?_
      walk_at "mk"
      refine o_inL ?_
      walk_at "mk"
      refine we_run r_is_due ?_
      rw [← hT, beq_self_eq_true]
      walk_at "mk"
      exact ⟨rfl, rfl⟩
    rw [show (rngL 256).filter (fun _ => false) = [] from filter_none fun _ _ => rfl]
    refine len_and (by decide) ?_
    walk_at "mk"
    refine tjoinH (v := decide (ps.length < 24) && !ps.isEmpty) (fun h => run_of ?_) (fun h => ?_) ?_
    · rw [List.length_map] at h
      have h := of_decide_eq_true h
      walk_at "mk"
      refine o_ne (cmpb_tupI (n := 63) (by omega)) rfl ?_
      refine ⟨_, rfl, ?_, rfl⟩
      rw [decide_eq_true (by omega)]
      cases ps with
      | nil => simp [veq, veqL]
      | cons a l => simp [veq, veqL]
    · rw [List.length_map] at h
      have h := of_decide_eq_false h
      rw [decide_eq_false (by omega)]
      rfl
    walk_at "mk"
    refine join2 (fun ls' st1 => ∃ x7 x15 x16, ls' = [some (.scr (ns.map .int)), some (.cell 0), some (.int r), some (.int b), some (tupI ps), some (objP r b (ps.map (placeF r b))), some (.int W), x7, some (toldV31 r b ps), x9, x10, x11, x12, some (tupI qs), some (objP r b ((ps ++ qs).map (placeF r b))), x15, x16, none, none, none, none]) (fun h => ?_) (fun _ => ?_) ?_
    · rw [Bool.and_eq_true, decide_eq_true_eq] at h
      obtain ⟨p, pt, rfl⟩ : ∃ p pt, ps = p :: pt := by
        cases ps with
        | nil => simp at h
        | cons p pt => exact ⟨p, pt, rfl⟩
      walk_at "mk"
      refine we_nox (r_take hb9 (by decide) (by decide)) ?_
      rintro v s10 ⟨n, rfl, n0, n1, o10, hb10⟩
      walk_at "mk"
      rw [show cutI (List.map IV.int (p :: pt)) (some 1) none = pt.map IV.int from cut_drop1]
      refine o_addT (by simp at hpl ⊢; omega) ?_
      rw [show pt.map IV.int ++ [IV.int n] = (pt ++ [n]).map IV.int by simp]
      refine ⟨_, rfl, ?_⟩
      refine compL_map (as := pt ++ [n]) .int (fun _ => true) (fun n => .int (n % W)) trivial (fun n hn => ⟨_, rfl, by walk_at "mk"; exact ⟨rfl, rfl⟩, fun _ => ?_⟩) ?_
      · walk_at "mk"
        exact ⟨rfl, rfl⟩
      rw [List.filter_eq_self.mpr fun _ _ => rfl]
      refine len_and (by simp at hpl ⊢; omega) ?_
      walk_at "mk"
      rw [show (pt ++ [n]).map (fun n => IV.int (n % W)) = ((pt ++ [n]).map (· % W)).map IV.int by rw [List.map_map]; rfl]
      refine o_ixT (atI_get (v := .int p) (l := (p :: pt).map IV.int) (i := 0) (Int.le_refl 0) (by simp)) ?_
      walk_at "mk"
      have P := Ps.of (ns := p :: pt) hr hbb hpl
      have hp0 := hpx p List.mem_cons_self
      obtain ⟨zs, hz, hgz⟩ := r_taken (st := s10) P hp0 (List.mem_map.mpr ⟨p, List.mem_cons_self, rfl⟩)
      have hz2 : zs.Perm (pt.map (placeF r b)) := (List.Perm.cons_inv hz).symm
      refine we_run hgz ?_
      walk_at "mk"
      have P2 : Ps r b (pt.map (placeF r b)) := Ps.of hr hbb (by simp at hpl; omega)
      rw [objP_perm hz2]
      refine we_run (r_putt P2 (by rw [List.length_map]; have := h.1; simp at this; omega) ⟨n0, n1⟩) ?_
      rw [show pt.map (placeF r b) ++ [placeF r b n] = (pt ++ [n]).map (placeF r b) by simp]
      walk_at "mk"
      refine ⟨by decide, ?_⟩
      rw [rng256]
      refine compL_map (as := rngL 256) .int (fun _ => false) .int trivial (fun n hn => ⟨_, rfl, ?_, fun h => by cases h⟩) ?_
      · have hn := rngL_mem.mp hn
        walk_at "mk"
        refine we_run (r_tellsN hr hbb (by simp at hpl ⊢; omega) hn) ?_
        walk_at "mk"
        refine o_inL ?_
        walk_at "mk"
        refine we_run r_is_due ?_
        rw [← hT, beq_self_eq_true]
        walk_at "mk"
        exact ⟨rfl, rfl⟩
      rw [show (rngL 256).filter (fun _ => false) = [] from filter_none fun _ _ => rfl]
      refine len_and (by decide) ?_
      walk_at "mk"
      exact ⟨_, _, _, rfl⟩
    · walk_at "mk"
      exact ⟨_, _, _, rfl⟩
    rintro ls' st1 ⟨x7, x15, x16, rfl⟩
    walk_at "mk"
    refine we_run (r_turned (.inr (.inr rfl)) hr hbb hpl) ?_
    unfold turnV
    rw [if_neg (by decide), if_neg (by decide)]
    walk_at "mk"
    rw [int_eqv]
    refine join2 (fun ls' st1 => ∃ x17 x18, ls' = [some (.scr (ns.map .int)), some (.cell 0), some (.int r), some (.int b), some (tupI ps), some (objP r b (ps.map (placeF r b))), some (.int W), x7, some (toldV31 r b ps), x9, x10, x11, x12, some (tupI qs), some (objP r b ((ps ++ qs).map (placeF r b))), x15, x16, x17, x18, none, none]) (fun h => ?_) (fun h => ?_) ?_
    · have h := of_decide_eq_true h
      rw [if_pos h]
      walk_at "mk"
      refine o_neS (by decide +kernel) ?_
      walk_at "mk"
      exact ⟨_, _, rfl⟩
    · have h := of_decide_eq_false h
      rw [if_neg h]
      walk_at "mk"
      have hW2 : W / 2 = r * 2 ^ (b - 1).toNat := by
        rw [← hW, pow_up (by omega), Int.mul_left_comm]
        omega
      have hT2 : ∀ ns n, tellB r (b - 1) ns n = decide (n % (W / 2) ∈ ns.map (· % (W / 2))) := fun ns n => by unfold tellB; rw [hW2]
      have hw2 := wide_eq hr (show 0 ≤ b - 1 ∧ b - 1 ≤ 5 by omega)
      rw [← hW2] at hw2
      refine compL_map (as := ps) .int (fun _ => true) (fun n => .int (n % (W / 2))) trivial (fun n hn => ⟨_, rfl, by walk_at "mk"; exact ⟨rfl, rfl⟩, fun _ => ?_⟩) ?_
      · walk_at "mk"
        exact ⟨rfl, rfl⟩
      rw [List.filter_eq_self.mpr fun _ _ => rfl]
      refine len_and (by simp at hpl ⊢; omega) ?_
      walk_at "mk"
      rw [show ps.map (fun n => IV.int (n % (W / 2))) = (ps.map (· % (W / 2))).map IV.int by rw [List.map_map]; rfl]
      refine ⟨by decide, ?_⟩
      rw [rng256]
      refine compL_map (as := rngL 256) .int (fun _ => false) .int trivial (fun n hn => ⟨_, rfl, ?_, fun h => by cases h⟩) ?_
      · have hn := rngL_mem.mp hn
        walk_at "mk"
        refine we_run (r_tellsN hr (by omega) hpl hn) ?_
        walk_at "mk"
        refine o_inL ?_
        walk_at "mk"
        refine we_run r_is_due ?_
        rw [← hT2, beq_self_eq_true]
        walk_at "mk"
        exact ⟨rfl, rfl⟩
      rw [show (rngL 256).filter (fun _ => false) = [] from filter_none fun _ _ => rfl]
      refine len_and (by decide) ?_
      walk_at "mk"
      exact ⟨_, _, rfl⟩
    rintro ls' st2 ⟨x17, x18, rfl⟩
    walk_at "mk"
    refine forL_inv (fun q ls s => s = st2 ∧ (∀ v ∈ q, cmpb 30 v = true ∧ isIn 0 255 v = false) ∧ ∃ x19, ls = [some (.scr (ns.map .int)), some (.cell 0), some (.int r), some (.int b), some (tupI ps), some (objP r b (ps.map (placeF r b))), some (.int W), x7, some (toldV31 r b ps), x9, x10, x11, x12, some (tupI qs), some (objP r b ((ps ++ qs).map (placeF r b))), x15, x16, x17, x18, x19, none]) ?_ ?_ _ _ _ ⟨rfl, ?_, none, rfl⟩
    rotate_left 2
    · intro v hv
      simp only [List.mem_cons, List.not_mem_nil, or_false] at hv
      rcases hv with rfl | rfl | rfl | rfl | rfl | rfl | rfl <;> exact ⟨by decide +kernel, by decide +kernel⟩
    · rintro ls s' ⟨rfl, _, x19, rfl⟩
      refine ⟨trivial, ?_⟩
      walk_at "mk"
      exact close_pure rfl rfl (by simp)
    · rintro v q ls s' ⟨rfl, hq, x19, rfl⟩
      obtain ⟨h1, h2⟩ := hq v List.mem_cons_self
      refine ⟨trivial, _, rfl, ?_⟩
      walk_at "mk"
      refine we_run (r_refused (cmpb_dat _ _ h1) h2) ?_
      walk_at "mk"
      refine o_neS (cmpb_pair (by decide +kernel) (cmpb_up 30 63 _ (by decide) h1)) ?_
      walk_at "mk"
      exact ⟨rfl, fun w hw => hq w (List.mem_cons_of_mem _ hw), _, rfl⟩
  · rintro v q ls s ⟨rfl, hq, x9, x10, x11, x12, rfl⟩
    have hq' := fun w hw => hq w (List.mem_cons_of_mem _ hw)
    rcases hq v List.mem_cons_self with rfl | rfl
    · refine ⟨trivial, _, rfl, ?_⟩
      walk_at "mk"
      refine we_run (r_turned (.inl rfl) hr hbb hpl) ?_
      unfold turnV
      rw [if_pos rfl]
      by_cases h : b = 0 ∨ r = 8
      · rw [if_pos h, decide_eq_true h]
        walk_at "mk"
        rw [decide_eq_true h] at hq'
        refine o_neS (by decide +kernel) ?_
        walk_at "mk"
        exact ⟨rfl, hq', _, _, _, _, rfl⟩
      · rw [if_neg h, decide_eq_false h]
        rw [decide_eq_false h] at hq'
        walk_at "mk"
        refine ⟨by decide, ?_⟩
        rw [rng256]
        refine compL_map (as := rngL 256) .int (fun _ => true) (fun n => .bl (tellB r b ps n)) trivial (fun n hn => ⟨_, rfl, by walk_at "mk"; exact ⟨rfl, rfl⟩, fun _ => ?_⟩) ?_
        · walk_at "mk"
          refine we_run (r_tellsN (by omega) (by omega) hpl (rngL_mem.mp hn)) ?_
          rw [tell_grown (by omega)]
          exact ⟨rfl, rfl⟩
        rw [List.filter_eq_self.mpr fun _ _ => rfl]
        refine len_and (by rw [List.length_map, rngL_len]; decide) ?_
        have hL : IV.lst ((rngL 256).map fun n => .bl (tellB r b ps n)) = toldV31 r b ps := rfl
        generalize (rngL 256).map (fun n => IV.bl (tellB r b ps n)) = L at hL
        walk_at "mk"
        rw [hL]
        refine o_neS told31_cmpb ?_
        walk_at "mk"
        rw [show PyData.eqv _ _ = true from tup2_eqv (a := r * 2) (b := b - 1) (c := 2 * r) (d := b - 1) (by omega) rfl]
        walk_at "mk"
        exact ⟨rfl, hq', _, _, _, _, rfl⟩
    · refine ⟨trivial, _, rfl, ?_⟩
      walk_at "mk"
      refine we_run (r_turned (.inr (.inl rfl)) hr hbb hpl) ?_
      unfold turnV
      rw [if_neg (by decide), if_pos rfl]
      by_cases h : r = 1 ∨ b = 5
      · rw [if_pos h, decide_eq_true h]
        rw [decide_eq_true h] at hq'
        walk_at "mk"
        refine o_neS (by decide +kernel) ?_
        walk_at "mk"
        exact ⟨rfl, hq', _, _, _, _, rfl⟩
      · rw [if_neg h, decide_eq_false h]
        rw [decide_eq_false h] at hq'
        walk_at "mk"
        refine ⟨by decide, ?_⟩
        rw [rng256]
        refine compL_map (as := rngL 256) .int (fun _ => true) (fun n => .bl (tellB r b ps n)) trivial (fun n hn => ⟨_, rfl, by walk_at "mk"; exact ⟨rfl, rfl⟩, fun _ => ?_⟩) ?_
        · walk_at "mk"
          refine we_run (r_tellsN (by omega) (by omega) hpl (rngL_mem.mp hn)) ?_
          rw [tell_shrunk hr (by omega) (by omega)]
          exact ⟨rfl, rfl⟩
        rw [List.filter_eq_self.mpr fun _ _ => rfl]
        refine len_and (by rw [List.length_map, rngL_len]; decide) ?_
        have hL : IV.lst ((rngL 256).map fun n => .bl (tellB r b ps n)) = toldV31 r b ps := rfl
        generalize (rngL 256).map (fun n => IV.bl (tellB r b ps n)) = L at hL
        walk_at "mk"
        rw [hL]
        refine o_neS told31_cmpb ?_
        walk_at "mk"
        rw [show PyData.eqv _ _ = true from tup2_eqv (a := r / 2) (b := b + 1) rfl rfl]
        walk_at "mk"
        exact ⟨rfl, hq', _, _, _, _, rfl⟩
theorem pure_law : ∀ ns : List Int, ns.length ≤ 63 → ∃ st', g_law [.scr (ns.map .int)] [] = some (.val (.bl true), st') := fun ns hl => by
  obtain ⟨r, st', e, q⟩ := r_law ns hl
  cases r with
  | val v => subst q; exact ⟨st', e⟩
  | exc c f v => exact q.elim
end Law
end
open PySem PySem.W PyProof.Rows
set_option maxRecDepth 100000 in
set_option maxHeartbeats 0 in
theorem PySem.Challenge.cw_markfilters_k31_whole_prints_told_holds : PySem.Challenge.rw_markfilters_k31_whole_prints_told.Holds := by
  w_on; o_law; k_head; (case hw => w_witness2)
  k_fill
  refine MK.walk (l := PySem.Challenge.rw_markfilters_k31_whole_prints_told) 10 ⟨rfl, by decide, by decide⟩ rfl rfl (fun w h Y => PySem.W.kIn_of Y) ?F
  case F =>
    intro w mg fa h KX G hmg
    refine Law.law_end Law.pure_law ?T hmg
    case T =>
      refine { b_ValueError := ?b_ValueError, b_abs := ?b_abs, b_all := ?b_all, b_bool := ?b_bool, b_enumerate := ?b_enumerate, b_int := ?b_int, b_isinstance := ?b_isinstance, b_len := ?b_len, b_range := ?b_range, b_sorted := ?b_sorted, b_sum := ?b_sum, b_tuple := ?b_tuple, c_ROOMS := ?c_ROOMS, c_MOST_ROOMS := ?c_MOST_ROOMS, c_MOST_BITS := ?c_MOST_BITS, c_MOST_NUMBERS := ?c_MOST_NUMBERS, c_PRINTS := ?c_PRINTS, F_is_integer := ?F_is_integer, F_is_integer_within := ?F_is_integer_within, X_InvalidNumber := ?X_InvalidNumber, X_InvalidBits := ?X_InvalidBits, X_InvalidRows := ?X_InvalidRows, X_InvalidTable := ?X_InvalidTable, X_Undefined := ?X_Undefined, F_check_numbers := ?F_check_numbers, F_is_row := ?F_is_row, F_are_rows := ?F_are_rows, C_Table := ?C_Table, M_Table_eq := ?M_Table_eq, F_is_print := ?F_is_print, F_place := ?F_place, F_places := ?F_places, F_table_of := ?F_table_of, F_print_table := ?F_print_table, F_tells := ?F_tells, F_grown := ?F_grown, F_shrunk := ?F_shrunk, F_cut := ?F_cut, F_joined := ?F_joined, F_fits := ?F_fits, F_putt := ?F_putt, F_taken := ?F_taken, F_law_box := ?F_law_box, F_law_take := ?F_law_take, F_law_pick := ?F_law_pick, F_law_is_due := ?F_law_is_due, F_law_power := ?F_law_power, F_law_rows_of := ?F_law_rows_of, F_law_prints := ?F_law_prints, F_law_table := ?F_law_table, F_law_refused := ?F_law_refused, F_law_turned := ?F_law_turned, F_law := ?F_law, i_Table := ?i_Table, f_Table_rooms := ?f_Table_rooms, f_Table_bits := ?f_Table_bits, f_Table_rows := ?f_Table_rows, m_InvalidNumber := ?m_InvalidNumber, m_Undefined := ?m_Undefined, sub := ?sub }
      case b_ValueError => exact PySem.W.mg_none_of KX G (by k_is)
      case b_abs => exact PySem.W.mg_none_of KX G (by k_is)
      case b_all => exact PySem.W.mg_none_of KX G (by k_is)
      case b_bool => exact PySem.W.mg_none_of KX G (by k_is)
      case b_enumerate => exact PySem.W.mg_none_of KX G (by k_is)
      case b_int => exact PySem.W.mg_none_of KX G (by k_is)
      case b_isinstance => exact PySem.W.mg_none_of KX G (by k_is)
      case b_len => exact PySem.W.mg_none_of KX G (by k_is)
      case b_range => exact PySem.W.mg_none_of KX G (by k_is)
      case b_sorted => exact PySem.W.mg_none_of KX G (by k_is)
      case b_sum => exact PySem.W.mg_none_of KX G (by k_is)
      case b_tuple => exact PySem.W.mg_none_of KX G (by k_is)
      case c_ROOMS => (refine' MK.TupC.of KX G ?a ?l (by decide) ?hv; (case a => k_is); (case l => k_is); (case hv => exact .cons ⟨_, rfl⟩ (.cons ⟨_, rfl⟩ (.cons ⟨_, rfl⟩ (.cons ⟨_, rfl⟩ (.nil))))))
      case c_MOST_ROOMS => (refine' MK.c_int KX G ?a; (case a => k_is))
      case c_MOST_BITS => (refine' MK.c_int KX G ?a; (case a => k_is))
      case c_MOST_NUMBERS => (refine' MK.c_int KX G ?a; (case a => k_is))
      case c_PRINTS => (refine' MK.c_int KX G ?a; (case a => k_is))
      case F_is_integer => (refine' MK.FunOk.of KX G ?a ?l ?c ?k (fun _ _ _ _ _ _ us hl => match us, hl with | [_], _ => rfl); (case a => k_is); (case l => k_is); (case c => k_is); (case k => k_is))
      case F_is_integer_within => (refine' MK.FunOk.of KX G ?a ?l ?c ?k (fun _ _ _ _ _ _ us hl => match us, hl with | [_, _, _], _ => rfl); (case a => k_is); (case l => k_is); (case c => k_is); (case k => k_is))
      case X_InvalidNumber => (refine' MK.ExcFun.of KX G ?aC ?xL ?rv ?sa ?ga ?gg ?nf ?a ?t ?l ?cc ?k ?kC ?eC ?tC ?hC (fun _ _ _ _ _ _ us hl => match us, hl with | [_, _], _ => rfl); (case aC => k_is); (case xL => k_is); (case rv => decide +kernel); (case sa => k_is); (case ga => k_is); (case gg => k_is); (case nf => k_is); (case a => k_is); (case t => k_is); (case l => k_is); (case cc => k_is); (case k => k_is); (case kC => k_is); (case eC => k_is); (case tC => k_is); (case hC => k_is))
      case X_InvalidBits => (refine' MK.ExcFun.of KX G ?aC ?xL ?rv ?sa ?ga ?gg ?nf ?a ?t ?l ?cc ?k ?kC ?eC ?tC ?hC (fun _ _ _ _ _ _ us hl => match us, hl with | [_, _], _ => rfl); (case aC => k_is); (case xL => k_is); (case rv => decide +kernel); (case sa => k_is); (case ga => k_is); (case gg => k_is); (case nf => k_is); (case a => k_is); (case t => k_is); (case l => k_is); (case cc => k_is); (case k => k_is); (case kC => k_is); (case eC => k_is); (case tC => k_is); (case hC => k_is))
      case X_InvalidRows => (refine' MK.ExcFun.of KX G ?aC ?xL ?rv ?sa ?ga ?gg ?nf ?a ?t ?l ?cc ?k ?kC ?eC ?tC ?hC (fun _ _ _ _ _ _ us hl => match us, hl with | [_, _], _ => rfl); (case aC => k_is); (case xL => k_is); (case rv => decide +kernel); (case sa => k_is); (case ga => k_is); (case gg => k_is); (case nf => k_is); (case a => k_is); (case t => k_is); (case l => k_is); (case cc => k_is); (case k => k_is); (case kC => k_is); (case eC => k_is); (case tC => k_is); (case hC => k_is))
      case X_InvalidTable => (refine' MK.ExcFun.of KX G ?aC ?xL ?rv ?sa ?ga ?gg ?nf ?a ?t ?l ?cc ?k ?kC ?eC ?tC ?hC (fun _ _ _ _ _ _ us hl => match us, hl with | [_, _], _ => rfl); (case aC => k_is); (case xL => k_is); (case rv => decide +kernel); (case sa => k_is); (case ga => k_is); (case gg => k_is); (case nf => k_is); (case a => k_is); (case t => k_is); (case l => k_is); (case cc => k_is); (case k => k_is); (case kC => k_is); (case eC => k_is); (case tC => k_is); (case hC => k_is))
      case X_Undefined => (refine' MK.ExcFun.of KX G ?aC ?xL ?rv ?sa ?ga ?gg ?nf ?a ?t ?l ?cc ?k ?kC ?eC ?tC ?hC (fun _ _ _ _ _ _ us hl => match us, hl with | [_, _], _ => rfl); (case aC => k_is); (case xL => k_is); (case rv => decide +kernel); (case sa => k_is); (case ga => k_is); (case gg => k_is); (case nf => k_is); (case a => k_is); (case t => k_is); (case l => k_is); (case cc => k_is); (case k => k_is); (case kC => k_is); (case eC => k_is); (case tC => k_is); (case hC => k_is))
      case F_check_numbers => (refine' MK.FunOk.of KX G ?a ?l ?c ?k (fun _ _ _ _ _ _ us hl => match us, hl with | [_, _], _ => rfl); (case a => k_is); (case l => k_is); (case c => k_is); (case k => k_is))
      case F_is_row => (refine' MK.FunOk.of KX G ?a ?l ?c ?k (fun _ _ _ _ _ _ us hl => match us, hl with | [_, _], _ => rfl); (case a => k_is); (case l => k_is); (case c => k_is); (case k => k_is))
      case F_are_rows => (refine' MK.FunOk.of KX G ?a ?l ?c ?k (fun _ _ _ _ _ _ us hl => match us, hl with | [_, _, _], _ => rfl); (case a => k_is); (case l => k_is); (case c => k_is); (case k => k_is))
      case C_Table => (refine' MK.ClsFun.of KX G ?aC ?a ?i ?l ?cc ?k ?mk ?kc (fun _ _ _ _ _ _ us hl => match us, hl with | [_, _, _, _], _ => rfl); (case aC => k_is); (case a => k_is); (case i => k_is); (case l => k_is); (case cc => k_is); (case k => k_is); (case mk => k_is); (case kc => k_is))
      case M_Table_eq => (refine' MK.MetFun.of KX G ?aC ?a ?i ?l ?cc ?k (fun _ _ _ _ _ _ us hl => match us, hl with | [_, _], _ => rfl); (case aC => k_is); (case a => k_is); (case i => k_is); (case l => k_is); (case cc => k_is); (case k => k_is))
      case F_is_print => (refine' MK.FunOk.of KX G ?a ?l ?c ?k (fun _ _ _ _ _ _ us hl => match us, hl with | [_], _ => rfl); (case a => k_is); (case l => k_is); (case c => k_is); (case k => k_is))
      case F_place => (refine' MK.FunOk.of KX G ?a ?l ?c ?k (fun _ _ _ _ _ _ us hl => match us, hl with | [_, _, _], _ => rfl); (case a => k_is); (case l => k_is); (case c => k_is); (case k => k_is))
      case F_places => (refine' MK.FunOk.of KX G ?a ?l ?c ?k (fun _ _ _ _ _ _ us hl => match us, hl with | [_], _ => rfl); (case a => k_is); (case l => k_is); (case c => k_is); (case k => k_is))
      case F_table_of => (refine' MK.FunOk.of KX G ?a ?l ?c ?k (fun _ _ _ _ _ _ us hl => match us, hl with | [_, _, _], _ => rfl); (case a => k_is); (case l => k_is); (case c => k_is); (case k => k_is))
      case F_print_table => (refine' MK.FunOk.of KX G ?a ?l ?c ?k (fun _ _ _ _ _ _ us hl => match us, hl with | [_, _, _], _ => rfl); (case a => k_is); (case l => k_is); (case c => k_is); (case k => k_is))
      case F_tells => (refine' MK.FunOk.of KX G ?a ?l ?c ?k (fun _ _ _ _ _ _ us hl => match us, hl with | [_, _], _ => rfl); (case a => k_is); (case l => k_is); (case c => k_is); (case k => k_is))
      case F_grown => (refine' MK.FunOk.of KX G ?a ?l ?c ?k (fun _ _ _ _ _ _ us hl => match us, hl with | [_], _ => rfl); (case a => k_is); (case l => k_is); (case c => k_is); (case k => k_is))
      case F_shrunk => (refine' MK.FunOk.of KX G ?a ?l ?c ?k (fun _ _ _ _ _ _ us hl => match us, hl with | [_], _ => rfl); (case a => k_is); (case l => k_is); (case c => k_is); (case k => k_is))
      case F_cut => (refine' MK.FunOk.of KX G ?a ?l ?c ?k (fun _ _ _ _ _ _ us hl => match us, hl with | [_], _ => rfl); (case a => k_is); (case l => k_is); (case c => k_is); (case k => k_is))
      case F_joined => (refine' MK.FunOk.of KX G ?a ?l ?c ?k (fun _ _ _ _ _ _ us hl => match us, hl with | [_, _], _ => rfl); (case a => k_is); (case l => k_is); (case c => k_is); (case k => k_is))
      case F_fits => (refine' MK.FunOk.of KX G ?a ?l ?c ?k (fun _ _ _ _ _ _ us hl => match us, hl with | [_, _], _ => rfl); (case a => k_is); (case l => k_is); (case c => k_is); (case k => k_is))
      case F_putt => (refine' MK.FunOk.of KX G ?a ?l ?c ?k (fun _ _ _ _ _ _ us hl => match us, hl with | [_, _], _ => rfl); (case a => k_is); (case l => k_is); (case c => k_is); (case k => k_is))
      case F_taken => (refine' MK.FunOk.of KX G ?a ?l ?c ?k (fun _ _ _ _ _ _ us hl => match us, hl with | [_, _], _ => rfl); (case a => k_is); (case l => k_is); (case c => k_is); (case k => k_is))
      case F_law_box => (refine' MK.FunOk.of KX G ?a ?l ?c ?k (fun _ _ _ _ _ _ us hl => match us, hl with | [_, _], _ => rfl); (case a => k_is); (case l => k_is); (case c => k_is); (case k => k_is))
      case F_law_take => (refine' MK.FunOk.of KX G ?a ?l ?c ?k (fun _ _ _ _ _ _ us hl => match us, hl with | [_, _], _ => rfl); (case a => k_is); (case l => k_is); (case c => k_is); (case k => k_is))
      case F_law_pick => (refine' MK.FunOk.of KX G ?a ?l ?c ?k (fun _ _ _ _ _ _ us hl => match us, hl with | [_, _], _ => rfl); (case a => k_is); (case l => k_is); (case c => k_is); (case k => k_is))
      case F_law_is_due => (refine' MK.FunOk.of KX G ?a ?l ?c ?k (fun _ _ _ _ _ _ us hl => match us, hl with | [_, _], _ => rfl); (case a => k_is); (case l => k_is); (case c => k_is); (case k => k_is))
      case F_law_power => (refine' MK.FunOk.of KX G ?a ?l ?c ?k (fun _ _ _ _ _ _ us hl => match us, hl with | [_], _ => rfl); (case a => k_is); (case l => k_is); (case c => k_is); (case k => k_is))
      case F_law_rows_of => (refine' MK.FunOk.of KX G ?a ?l ?c ?k (fun _ _ _ _ _ _ us hl => match us, hl with | [_, _, _], _ => rfl); (case a => k_is); (case l => k_is); (case c => k_is); (case k => k_is))
      case F_law_prints => (refine' MK.FunOk.of KX G ?a ?l ?c ?k (fun _ _ _ _ _ _ us hl => match us, hl with | [_, _], _ => rfl); (case a => k_is); (case l => k_is); (case c => k_is); (case k => k_is))
      case F_law_table => (refine' MK.FunOk.of KX G ?a ?l ?c ?k (fun _ _ _ _ _ _ us hl => match us, hl with | [_, _, _, _], _ => rfl); (case a => k_is); (case l => k_is); (case c => k_is); (case k => k_is))
      case F_law_refused => (refine' MK.FunOk.of KX G ?a ?l ?c ?k (fun _ _ _ _ _ _ us hl => match us, hl with | [_, _], _ => rfl); (case a => k_is); (case l => k_is); (case c => k_is); (case k => k_is))
      case F_law_turned => (refine' MK.FunOk.of KX G ?a ?l ?c ?k (fun _ _ _ _ _ _ us hl => match us, hl with | [_, _], _ => rfl); (case a => k_is); (case l => k_is); (case c => k_is); (case k => k_is))
      case F_law => (refine' MK.FunOk.of KX G ?a ?l ?c ?k (fun _ _ _ _ _ _ us hl => match us, hl with | [_], _ => rfl); (case a => k_is); (case l => k_is); (case c => k_is); (case k => k_is))
      case i_Table => (refine' MK.IsOk.of ?o ?s1 ?s2 ?s3 ?s4 ?s5 ?s6; (case o => (refine' MK.Own.of KX G ?aC ?pg ?hd ?po ?sa ?ca ?cn ?ct ?cm ?cl ?t; (case aC => k_is); (case pg => k_is); (case hd => k_is); (case po => k_is); (case sa => k_is); (case ca => k_is); (case cn => k_is); (case ct => k_is); (case cm => k_is); (case cl => k_is); (case t => k_is))); (case s1 => k_is); (case s2 => k_is); (case s3 => k_is); (case s4 => k_is); (case s5 => k_is); (case s6 => k_is))
      case f_Table_rooms => (refine' MK.FldOk.of ?o ?n; (case o => (refine' MK.Own.of KX G ?aC ?pg ?hd ?po ?sa ?ca ?cn ?ct ?cm ?cl ?t; (case aC => k_is); (case pg => k_is); (case hd => k_is); (case po => k_is); (case sa => k_is); (case ca => k_is); (case cn => k_is); (case ct => k_is); (case cm => k_is); (case cl => k_is); (case t => k_is))); (case n => k_is))
      case f_Table_bits => (refine' MK.FldOk.of ?o ?n; (case o => (refine' MK.Own.of KX G ?aC ?pg ?hd ?po ?sa ?ca ?cn ?ct ?cm ?cl ?t; (case aC => k_is); (case pg => k_is); (case hd => k_is); (case po => k_is); (case sa => k_is); (case ca => k_is); (case cn => k_is); (case ct => k_is); (case cm => k_is); (case cl => k_is); (case t => k_is))); (case n => k_is))
      case f_Table_rows => (refine' MK.FldOk.of ?o ?n; (case o => (refine' MK.Own.of KX G ?aC ?pg ?hd ?po ?sa ?ca ?cn ?ct ?cm ?cl ?t; (case aC => k_is); (case pg => k_is); (case hd => k_is); (case po => k_is); (case sa => k_is); (case ca => k_is); (case cn => k_is); (case ct => k_is); (case cm => k_is); (case cl => k_is); (case t => k_is))); (case n => k_is))
      case m_InvalidNumber => (refine' MK.c_ref KX G ?a; (case a => k_is))
      case m_Undefined => (refine' MK.c_ref KX G ?a; (case a => k_is))
      case sub => exact MK.subOk_of (MK.rows_cons (by (refine' MK.SubRow.of KX G ?a ?ax ?e ?i ?tC ?s; (case a => k_is); (case ax => k_is); (case e => k_is); (case i => k_is); (case tC => k_is); (case s => k_is))) (MK.rows_cons (by (refine' MK.SubRow.of KX G ?a ?ax ?e ?i ?tC ?s; (case a => k_is); (case ax => k_is); (case e => k_is); (case i => k_is); (case tC => k_is); (case s => k_is))) (MK.rows_cons (by (refine' MK.SubRow.of KX G ?a ?ax ?e ?i ?tC ?s; (case a => k_is); (case ax => k_is); (case e => k_is); (case i => k_is); (case tC => k_is); (case s => k_is))) (MK.rows_cons (by (refine' MK.SubRow.of KX G ?a ?ax ?e ?i ?tC ?s; (case a => k_is); (case ax => k_is); (case e => k_is); (case i => k_is); (case tC => k_is); (case s => k_is))) (MK.rows_cons (by (refine' MK.SubRow.of KX G ?a ?ax ?e ?i ?tC ?s; (case a => k_is); (case ax => k_is); (case e => k_is); (case i => k_is); (case tC => k_is); (case s => k_is))) (MK.rows_cons (by (refine' MK.SubRow.of KX G ?a ?ax ?e ?i ?tC ?s; (case a => k_is); (case ax => k_is); (case e => k_is); (case i => k_is); (case tC => k_is); (case s => k_is))) (MK.rows_cons (by (refine' MK.SubRow.of KX G ?a ?ax ?e ?i ?tC ?s; (case a => k_is); (case ax => k_is); (case e => k_is); (case i => k_is); (case tC => k_is); (case s => k_is))) (MK.rows_cons (by (refine' MK.SubRow.of KX G ?a ?ax ?e ?i ?tC ?s; (case a => k_is); (case ax => k_is); (case e => k_is); (case i => k_is); (case tC => k_is); (case s => k_is))) (MK.rows_cons (by (refine' MK.SubRow.of KX G ?a ?ax ?e ?i ?tC ?s; (case a => k_is); (case ax => k_is); (case e => k_is); (case i => k_is); (case tC => k_is); (case s => k_is))) (MK.rows_cons (by (refine' MK.SubRow.of KX G ?a ?ax ?e ?i ?tC ?s; (case a => k_is); (case ax => k_is); (case e => k_is); (case i => k_is); (case tC => k_is); (case s => k_is))) (MK.rows_nil)))))))))))
